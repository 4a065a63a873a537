/-
  The reference of layer 10, walked: Long, Check, Code.
-/
import Derived.Test.YtipkgflonioacaaRpD
namespace Go.Proofs.Ytipkgflonioacaa
open Go.RowKit

theorem long_2 (w : World) : Calls Try.prog 27 #[.int .u8 2] w fun e w' => e = .returned (.bool true) ∧ Below w.heap.size w w' := by
  go_enter Try.func27, Try.ntmps27
  go_wp2_with fail
  go_returns
  exact ⟨rfl, Below.refl _ _⟩
theorem long_3 (w : World) : Calls Try.prog 27 #[.int .u8 3] w fun e w' => e = .returned (.bool true) ∧ Below w.heap.size w w' := by
  go_enter Try.func27, Try.ntmps27
  go_wp2_with fail
  go_returns
  exact ⟨rfl, Below.refl _ _⟩
theorem long_no {n : Int} (d2 : (n == 2) = false) (d3 : (n == 3) = false) (w : World) : Calls Try.prog 27 #[.int .u8 n] w fun e w' => e = .returned (.bool false) ∧ Below w.heap.size w w' := by
  go_enter Try.func27, Try.ntmps27
  go_wp2_with fail
  go_returns
  exact ⟨rfl, Below.refl _ _⟩
theorem long_is {n : Int} {q : Bool} (hq : Hid (Two n ↔ q = true)) (w : World) : Calls Try.prog 27 #[.int .u8 n] w fun e w' => e = .returned (.bool q) ∧ Below w.heap.size w w' := by
  by_cases h : Two n
  · rw [hq.out.1 h]
    rcases h with rfl | rfl
    · exact long_2 w
    · exact long_3 w
  · have e : q = false := by
      cases q
      · rfl
      · exact absurd (hq.out.2 rfl) h
    rw [e]
    exact long_no (beq_false_of_ne fun e => h (Or.inl e)) (beq_false_of_ne fun e => h (Or.inr e)) w

set_option maxRecDepth 100000 in
set_option maxHeartbeats 3200000 in
theorem rchk_lo (r : Rep) (h : r.c < 1) (w : World) : Calls Try.prog 17 #[.agg r.v.toArray] w fun e w' => e = .returned (.int .i64 8) ∧ Below w.heap.size w w' := by
  have SV := Lib.hid (size_rep r)
  have v0 : r.v[0]? = some (.int .u8 r.c) := rfl
  have v1 : r.v[1]? = some (.int .u32 r.t) := rfl
  have v2 : r.v[2]? = some (.int .u32 r.a) := rfl
  have v3 : r.v[3]? = some (.int .u32 r.b) := rfl
  have v4 : r.v[4]? = some (.int .u32 r.d) := rfl
  have v5 : r.v[5]? = some (.int .u64 r.x) := rfl
  have d1 : decide (r.c < 1) = true := decide_eq_true h
  obtain ⟨V, hV⟩ : ∃ V, r.v = V := ⟨_, rfl⟩
  rw [hV] at SV v0 v1 v2 v3 v4 v5 ⊢
  clear hV
  go_enter Try.func17, Try.ntmps17
  go_upto_region 1 with fail
  refine F_gen (F := fun W => Code.wp _ _ _ _ W) (J := fun W => Box W (w.heap.size) (V) ∧ Below w.heap.size w W) (And.intro (Box.newc rfl rfl) (by go_grown)) ?_
  intro w0 ⟨e_r, hB0⟩
  have hs0 := hB0.size
  have x_r0 := e_r; clear e_r
  have ck := (x_r0).c 0 _ v0
  have zk := (x_r0).lt
  go_wp2_with fail
  go_returns
  exact ⟨rfl, hB0⟩
set_option maxRecDepth 100000 in
set_option maxHeartbeats 3200000 in
theorem rchk_hi (r : Rep) (h : 8 < r.c) (w : World) : Calls Try.prog 17 #[.agg r.v.toArray] w fun e w' => e = .returned (.int .i64 8) ∧ Below w.heap.size w w' := by
  have SV := Lib.hid (size_rep r)
  have v0 : r.v[0]? = some (.int .u8 r.c) := rfl
  have v1 : r.v[1]? = some (.int .u32 r.t) := rfl
  have v2 : r.v[2]? = some (.int .u32 r.a) := rfl
  have v3 : r.v[3]? = some (.int .u32 r.b) := rfl
  have v4 : r.v[4]? = some (.int .u32 r.d) := rfl
  have v5 : r.v[5]? = some (.int .u64 r.x) := rfl
  have d1 : decide (r.c < 1) = false := decide_eq_false (by omega)
  have d2 : decide (8 < r.c) = true := decide_eq_true h
  obtain ⟨V, hV⟩ : ∃ V, r.v = V := ⟨_, rfl⟩
  rw [hV] at SV v0 v1 v2 v3 v4 v5 ⊢
  clear hV
  go_enter Try.func17, Try.ntmps17
  go_upto_region 1 with fail
  refine F_gen (F := fun W => Code.wp _ _ _ _ W) (J := fun W => Box W (w.heap.size) (V) ∧ Below w.heap.size w W) (And.intro (Box.newc rfl rfl) (by go_grown)) ?_
  intro w0 ⟨e_r, hB0⟩
  have hs0 := hB0.size
  have x_r0 := e_r; clear e_r
  have ck := (x_r0).c 0 _ v0
  have zk := (x_r0).lt
  go_wp2_with fail
  go_returns
  exact ⟨rfl, hB0⟩
set_option maxRecDepth 100000 in
set_option maxHeartbeats 3200000 in
theorem rchk_nt (r : Rep) (h1 : 1 ≤ r.c ∧ r.c ≤ 8) (h2 : r.c ≠ 2) (h3 : r.c ≠ 3) (he : r = r.alone) (w : World) : Calls Try.prog 17 #[.agg r.v.toArray] w fun e w' => e = .returned (.int .i64 0) ∧ Below w.heap.size w w' := by
  have SV := Lib.hid (size_rep r)
  have v0 : r.v[0]? = some (.int .u8 r.c) := rfl
  have v1 : r.v[1]? = some (.int .u32 r.t) := rfl
  have v2 : r.v[2]? = some (.int .u32 r.a) := rfl
  have v3 : r.v[3]? = some (.int .u32 r.b) := rfl
  have v4 : r.v[4]? = some (.int .u32 r.d) := rfl
  have v5 : r.v[5]? = some (.int .u64 r.x) := rfl
  have d1 : decide (r.c < 1) = false := decide_eq_false (by omega)
  have d2 : decide (8 < r.c) = false := decide_eq_false (by omega)
  have CL := fun W => long_is (n := r.c) (q := false) (Lib.hid ⟨fun h => absurd h (by unfold Two; omega), fun h => by cases h⟩) W
  have EQ := fun W => eqp_t (r := r) (s := r.alone) he W
  have BR := fun W => build_rc r.c r.hc W
  rw [show Rep.lone r.c r.hc = r.alone from rfl] at BR
  obtain ⟨U, hU⟩ : ∃ U, r.alone.v = U := ⟨_, rfl⟩
  rw [hU] at EQ BR
  clear hU he
  obtain ⟨V, hV⟩ : ∃ V, r.v = V := ⟨_, rfl⟩
  rw [hV] at SV v0 v1 v2 v3 v4 v5 EQ ⊢
  clear hV
  go_enter Try.func17, Try.ntmps17
  go_upto_region 1 with fail
  refine F_gen (F := fun W => Code.wp _ _ _ _ W) (J := fun W => Box W (w.heap.size) (V) ∧ Below w.heap.size w W) (And.intro (Box.newc rfl rfl) (by go_grown)) ?_
  intro w0 ⟨e_r, hB0⟩
  have hs0 := hB0.size
  have x_r0 := e_r; clear e_r
  have ck := (x_r0).c 0 _ v0
  have zk := (x_r0).lt
  go_wp2_with fail
  refine (CL _).mono ?_
  rintro e w1 ⟨rfl, hb⟩
  clear ck zk
  have hB1 : Below w.heap.size w w1 := below_thru hB0 hb
  have hs1 := hB1.size
  have x_r1 : Box w1 (w.heap.size) (V) := Box.below x_r0 hb
  clear hB0 hs0 x_r0
  clear hb
  have ck := (x_r1).c 0 _ v0
  have zk := (x_r1).lt
  go_wp2_with (first | (refine wpList_load_box9 rfl _ _ rfl x_r1 rfl Try.underlying26 rfl SV.out ?_) | (refine wpList_build9 rfl 26 _ rfl (us := #[(0, .int .u8 r.c)]) (by rfl) (BR _) ?_))
  go_returns
  exact ⟨rfl, hB1⟩
set_option maxRecDepth 100000 in
set_option maxHeartbeats 3200000 in
theorem rchk_nf (r : Rep) (h1 : 1 ≤ r.c ∧ r.c ≤ 8) (h2 : r.c ≠ 2) (h3 : r.c ≠ 3) (he : r ≠ r.alone) (w : World) : Calls Try.prog 17 #[.agg r.v.toArray] w fun e w' => e = .returned (.int .i64 8) ∧ Below w.heap.size w w' := by
  have SV := Lib.hid (size_rep r)
  have v0 : r.v[0]? = some (.int .u8 r.c) := rfl
  have v1 : r.v[1]? = some (.int .u32 r.t) := rfl
  have v2 : r.v[2]? = some (.int .u32 r.a) := rfl
  have v3 : r.v[3]? = some (.int .u32 r.b) := rfl
  have v4 : r.v[4]? = some (.int .u32 r.d) := rfl
  have v5 : r.v[5]? = some (.int .u64 r.x) := rfl
  have d1 : decide (r.c < 1) = false := decide_eq_false (by omega)
  have d2 : decide (8 < r.c) = false := decide_eq_false (by omega)
  have CL := fun W => long_is (n := r.c) (q := false) (Lib.hid ⟨fun h => absurd h (by unfold Two; omega), fun h => by cases h⟩) W
  have EQ := fun W => eqp_f (r := r) (s := r.alone) he W
  have BR := fun W => build_rc r.c r.hc W
  rw [show Rep.lone r.c r.hc = r.alone from rfl] at BR
  obtain ⟨U, hU⟩ : ∃ U, r.alone.v = U := ⟨_, rfl⟩
  rw [hU] at EQ BR
  clear hU he
  obtain ⟨V, hV⟩ : ∃ V, r.v = V := ⟨_, rfl⟩
  rw [hV] at SV v0 v1 v2 v3 v4 v5 EQ ⊢
  clear hV
  go_enter Try.func17, Try.ntmps17
  go_upto_region 1 with fail
  refine F_gen (F := fun W => Code.wp _ _ _ _ W) (J := fun W => Box W (w.heap.size) (V) ∧ Below w.heap.size w W) (And.intro (Box.newc rfl rfl) (by go_grown)) ?_
  intro w0 ⟨e_r, hB0⟩
  have hs0 := hB0.size
  have x_r0 := e_r; clear e_r
  have ck := (x_r0).c 0 _ v0
  have zk := (x_r0).lt
  go_wp2_with fail
  refine (CL _).mono ?_
  rintro e w1 ⟨rfl, hb⟩
  clear ck zk
  have hB1 : Below w.heap.size w w1 := below_thru hB0 hb
  have hs1 := hB1.size
  have x_r1 : Box w1 (w.heap.size) (V) := Box.below x_r0 hb
  clear hB0 hs0 x_r0
  clear hb
  have ck := (x_r1).c 0 _ v0
  have zk := (x_r1).lt
  go_wp2_with (first | (refine wpList_load_box9 rfl _ _ rfl x_r1 rfl Try.underlying26 rfl SV.out ?_) | (refine wpList_build9 rfl 26 _ rfl (us := #[(0, .int .u8 r.c)]) (by rfl) (BR _) ?_))
  go_returns
  exact ⟨rfl, hB1⟩
set_option maxRecDepth 100000 in
set_option maxHeartbeats 3200000 in
theorem rchk_2t (r : Rep) (h0 : r.c = 2) (ht : ¬ r.t < 16) (w : World) : Calls Try.prog 17 #[.agg r.v.toArray] w fun e w' => e = .returned (.int .i64 8) ∧ Below w.heap.size w w' := by
  have SV := Lib.hid (size_rep r)
  have v0 : r.v[0]? = some (.int .u8 r.c) := rfl
  have v1 : r.v[1]? = some (.int .u32 r.t) := rfl
  have v2 : r.v[2]? = some (.int .u32 r.a) := rfl
  have v3 : r.v[3]? = some (.int .u32 r.b) := rfl
  have v4 : r.v[4]? = some (.int .u32 r.d) := rfl
  have v5 : r.v[5]? = some (.int .u64 r.x) := rfl
  rw [h0] at v0
  have CL := fun W => long_2 W
  have d4 : decide (16 ≤ r.t) = true := decide_eq_true (by omega)
  obtain ⟨V, hV⟩ : ∃ V, r.v = V := ⟨_, rfl⟩
  rw [hV] at SV v0 v1 v2 v3 v4 v5 ⊢
  clear hV
  go_enter Try.func17, Try.ntmps17
  go_upto_region 1 with fail
  refine F_gen (F := fun W => Code.wp _ _ _ _ W) (J := fun W => Box W (w.heap.size) (V) ∧ Below w.heap.size w W) (And.intro (Box.newc rfl rfl) (by go_grown)) ?_
  intro w0 ⟨e_r, hB0⟩
  have hs0 := hB0.size
  have x_r0 := e_r; clear e_r
  have ck := (x_r0).c 0 _ v0
  have zk := (x_r0).lt
  go_wp2_with fail
  refine (CL _).mono ?_
  rintro e w1 ⟨rfl, hb⟩
  clear ck zk
  have hB1 : Below w.heap.size w w1 := below_thru hB0 hb
  have hs1 := hB1.size
  have x_r1 : Box w1 (w.heap.size) (V) := Box.below x_r0 hb
  clear hB0 hs0 x_r0
  clear hb
  have ck := (x_r1).c 0 _ v0
  have zk := (x_r1).lt
  have cl := (x_r1).c 1 _ v1
  have cm := (x_r1).c 2 _ v2
  have cn := (x_r1).c 3 _ v3
  have co := (x_r1).c 4 _ v4
  have cp := (x_r1).c 5 _ v5
  go_wp2_with fail
  go_returns
  exact ⟨rfl, hB1⟩
set_option maxRecDepth 100000 in
set_option maxHeartbeats 3200000 in
theorem rchk_2x (r : Rep) (h0 : r.c = 2) (ht : r.t < 16) (hx : r.x ≠ 0) (w : World) : Calls Try.prog 17 #[.agg r.v.toArray] w fun e w' => e = .returned (.int .i64 8) ∧ Below w.heap.size w w' := by
  have SV := Lib.hid (size_rep r)
  have v0 : r.v[0]? = some (.int .u8 r.c) := rfl
  have v1 : r.v[1]? = some (.int .u32 r.t) := rfl
  have v2 : r.v[2]? = some (.int .u32 r.a) := rfl
  have v3 : r.v[3]? = some (.int .u32 r.b) := rfl
  have v4 : r.v[4]? = some (.int .u32 r.d) := rfl
  have v5 : r.v[5]? = some (.int .u64 r.x) := rfl
  rw [h0] at v0
  have CL := fun W => long_2 W
  have d4 : decide (16 ≤ r.t) = false := decide_eq_false (by omega)
  have d5 : (r.x == 0) = false := beq_false_of_ne hx
  obtain ⟨V, hV⟩ : ∃ V, r.v = V := ⟨_, rfl⟩
  rw [hV] at SV v0 v1 v2 v3 v4 v5 ⊢
  clear hV
  go_enter Try.func17, Try.ntmps17
  go_upto_region 1 with fail
  refine F_gen (F := fun W => Code.wp _ _ _ _ W) (J := fun W => Box W (w.heap.size) (V) ∧ Below w.heap.size w W) (And.intro (Box.newc rfl rfl) (by go_grown)) ?_
  intro w0 ⟨e_r, hB0⟩
  have hs0 := hB0.size
  have x_r0 := e_r; clear e_r
  have ck := (x_r0).c 0 _ v0
  have zk := (x_r0).lt
  go_wp2_with fail
  refine (CL _).mono ?_
  rintro e w1 ⟨rfl, hb⟩
  clear ck zk
  have hB1 : Below w.heap.size w w1 := below_thru hB0 hb
  have hs1 := hB1.size
  have x_r1 : Box w1 (w.heap.size) (V) := Box.below x_r0 hb
  clear hB0 hs0 x_r0
  clear hb
  have ck := (x_r1).c 0 _ v0
  have zk := (x_r1).lt
  have cl := (x_r1).c 1 _ v1
  have cm := (x_r1).c 2 _ v2
  have cn := (x_r1).c 3 _ v3
  have co := (x_r1).c 4 _ v4
  have cp := (x_r1).c 5 _ v5
  go_wp2_with fail
  go_returns
  exact ⟨rfl, hB1⟩
set_option maxRecDepth 100000 in
set_option maxHeartbeats 3200000 in
theorem rchk_2l0 (r : Rep) (h0 : r.c = 2) (ht : r.t < 16) (hx : r.x = 0) (ha : ¬ r.a ≤ 1000000000) (w : World) : Calls Try.prog 17 #[.agg r.v.toArray] w fun e w' => e = .returned (.int .i64 8) ∧ Below w.heap.size w w' := by
  have SV := Lib.hid (size_rep r)
  have v0 : r.v[0]? = some (.int .u8 r.c) := rfl
  have v1 : r.v[1]? = some (.int .u32 r.t) := rfl
  have v2 : r.v[2]? = some (.int .u32 r.a) := rfl
  have v3 : r.v[3]? = some (.int .u32 r.b) := rfl
  have v4 : r.v[4]? = some (.int .u32 r.d) := rfl
  have v5 : r.v[5]? = some (.int .u64 r.x) := rfl
  rw [h0] at v0
  have CL := fun W => long_2 W
  have d4 : decide (16 ≤ r.t) = false := decide_eq_false (by omega)
  have d5 : (r.x == 0) = true := beq_iff_eq.2 hx
  have ea : decide (1000000000 < r.a) = true := decide_eq_true (by omega)
  obtain ⟨V, hV⟩ : ∃ V, r.v = V := ⟨_, rfl⟩
  rw [hV] at SV v0 v1 v2 v3 v4 v5 ⊢
  clear hV
  go_enter Try.func17, Try.ntmps17
  go_upto_region 1 with fail
  refine F_gen (F := fun W => Code.wp _ _ _ _ W) (J := fun W => Box W (w.heap.size) (V) ∧ Below w.heap.size w W) (And.intro (Box.newc rfl rfl) (by go_grown)) ?_
  intro w0 ⟨e_r, hB0⟩
  have hs0 := hB0.size
  have x_r0 := e_r; clear e_r
  have ck := (x_r0).c 0 _ v0
  have zk := (x_r0).lt
  go_wp2_with fail
  refine (CL _).mono ?_
  rintro e w1 ⟨rfl, hb⟩
  clear ck zk
  have hB1 : Below w.heap.size w w1 := below_thru hB0 hb
  have hs1 := hB1.size
  have x_r1 : Box w1 (w.heap.size) (V) := Box.below x_r0 hb
  clear hB0 hs0 x_r0
  clear hb
  have ck := (x_r1).c 0 _ v0
  have zk := (x_r1).lt
  have cl := (x_r1).c 1 _ v1
  have cm := (x_r1).c 2 _ v2
  have cn := (x_r1).c 3 _ v3
  have co := (x_r1).c 4 _ v4
  have cp := (x_r1).c 5 _ v5
  go_wp2_with fail
  refine wp_loop_rounds 5 ?_
  rw [rounds_succ]
  go_wp2_with fail
  go_returns
  exact ⟨rfl, hB1⟩
set_option maxRecDepth 100000 in
set_option maxHeartbeats 3200000 in
theorem rchk_2l1 (r : Rep) (h0 : r.c = 2) (ht : r.t < 16) (hx : r.x = 0) (ha : r.a ≤ 1000000000) (hb : ¬ r.b ≤ 1000000000) (w : World) : Calls Try.prog 17 #[.agg r.v.toArray] w fun e w' => e = .returned (.int .i64 8) ∧ Below w.heap.size w w' := by
  have SV := Lib.hid (size_rep r)
  have v0 : r.v[0]? = some (.int .u8 r.c) := rfl
  have v1 : r.v[1]? = some (.int .u32 r.t) := rfl
  have v2 : r.v[2]? = some (.int .u32 r.a) := rfl
  have v3 : r.v[3]? = some (.int .u32 r.b) := rfl
  have v4 : r.v[4]? = some (.int .u32 r.d) := rfl
  have v5 : r.v[5]? = some (.int .u64 r.x) := rfl
  rw [h0] at v0
  have CL := fun W => long_2 W
  have d4 : decide (16 ≤ r.t) = false := decide_eq_false (by omega)
  have d5 : (r.x == 0) = true := beq_iff_eq.2 hx
  have ea : decide (1000000000 < r.a) = false := decide_eq_false (by omega)
  have eb : decide (1000000000 < r.b) = true := decide_eq_true (by omega)
  obtain ⟨V, hV⟩ : ∃ V, r.v = V := ⟨_, rfl⟩
  rw [hV] at SV v0 v1 v2 v3 v4 v5 ⊢
  clear hV
  go_enter Try.func17, Try.ntmps17
  go_upto_region 1 with fail
  refine F_gen (F := fun W => Code.wp _ _ _ _ W) (J := fun W => Box W (w.heap.size) (V) ∧ Below w.heap.size w W) (And.intro (Box.newc rfl rfl) (by go_grown)) ?_
  intro w0 ⟨e_r, hB0⟩
  have hs0 := hB0.size
  have x_r0 := e_r; clear e_r
  have ck := (x_r0).c 0 _ v0
  have zk := (x_r0).lt
  go_wp2_with fail
  refine (CL _).mono ?_
  rintro e w1 ⟨rfl, hb⟩
  clear ck zk
  have hB1 : Below w.heap.size w w1 := below_thru hB0 hb
  have hs1 := hB1.size
  have x_r1 : Box w1 (w.heap.size) (V) := Box.below x_r0 hb
  clear hB0 hs0 x_r0
  clear hb
  have ck := (x_r1).c 0 _ v0
  have zk := (x_r1).lt
  have cl := (x_r1).c 1 _ v1
  have cm := (x_r1).c 2 _ v2
  have cn := (x_r1).c 3 _ v3
  have co := (x_r1).c 4 _ v4
  have cp := (x_r1).c 5 _ v5
  go_wp2_with fail
  refine wp_loop_rounds 5 ?_
  rw [rounds_succ]
  go_wp2_with fail
  rw [rounds_succ]
  go_wp2_with fail
  go_returns
  exact ⟨rfl, hB1⟩
set_option maxRecDepth 100000 in
set_option maxHeartbeats 3200000 in
theorem rchk_2l2 (r : Rep) (h0 : r.c = 2) (ht : r.t < 16) (hx : r.x = 0) (ha : r.a ≤ 1000000000) (hb : r.b ≤ 1000000000) (hd : ¬ r.d ≤ 1000000000) (w : World) : Calls Try.prog 17 #[.agg r.v.toArray] w fun e w' => e = .returned (.int .i64 8) ∧ Below w.heap.size w w' := by
  have SV := Lib.hid (size_rep r)
  have v0 : r.v[0]? = some (.int .u8 r.c) := rfl
  have v1 : r.v[1]? = some (.int .u32 r.t) := rfl
  have v2 : r.v[2]? = some (.int .u32 r.a) := rfl
  have v3 : r.v[3]? = some (.int .u32 r.b) := rfl
  have v4 : r.v[4]? = some (.int .u32 r.d) := rfl
  have v5 : r.v[5]? = some (.int .u64 r.x) := rfl
  rw [h0] at v0
  have CL := fun W => long_2 W
  have d4 : decide (16 ≤ r.t) = false := decide_eq_false (by omega)
  have d5 : (r.x == 0) = true := beq_iff_eq.2 hx
  have ea : decide (1000000000 < r.a) = false := decide_eq_false (by omega)
  have eb : decide (1000000000 < r.b) = false := decide_eq_false (by omega)
  have ed : decide (1000000000 < r.d) = true := decide_eq_true (by omega)
  obtain ⟨V, hV⟩ : ∃ V, r.v = V := ⟨_, rfl⟩
  rw [hV] at SV v0 v1 v2 v3 v4 v5 ⊢
  clear hV
  go_enter Try.func17, Try.ntmps17
  go_upto_region 1 with fail
  refine F_gen (F := fun W => Code.wp _ _ _ _ W) (J := fun W => Box W (w.heap.size) (V) ∧ Below w.heap.size w W) (And.intro (Box.newc rfl rfl) (by go_grown)) ?_
  intro w0 ⟨e_r, hB0⟩
  have hs0 := hB0.size
  have x_r0 := e_r; clear e_r
  have ck := (x_r0).c 0 _ v0
  have zk := (x_r0).lt
  go_wp2_with fail
  refine (CL _).mono ?_
  rintro e w1 ⟨rfl, hb⟩
  clear ck zk
  have hB1 : Below w.heap.size w w1 := below_thru hB0 hb
  have hs1 := hB1.size
  have x_r1 : Box w1 (w.heap.size) (V) := Box.below x_r0 hb
  clear hB0 hs0 x_r0
  clear hb
  have ck := (x_r1).c 0 _ v0
  have zk := (x_r1).lt
  have cl := (x_r1).c 1 _ v1
  have cm := (x_r1).c 2 _ v2
  have cn := (x_r1).c 3 _ v3
  have co := (x_r1).c 4 _ v4
  have cp := (x_r1).c 5 _ v5
  go_wp2_with fail
  refine wp_loop_rounds 5 ?_
  rw [rounds_succ]
  go_wp2_with fail
  rw [rounds_succ]
  go_wp2_with fail
  rw [rounds_succ]
  go_wp2_with fail
  go_returns
  exact ⟨rfl, hB1⟩
set_option maxRecDepth 100000 in
set_option maxHeartbeats 3200000 in
theorem rchk_2l3 (r : Rep) (h0 : r.c = 2) (ht : r.t < 16) (hx : r.x = 0) (ha : r.a ≤ 1000000000) (hb : r.b ≤ 1000000000) (hd : r.d ≤ 1000000000) (w : World) : Calls Try.prog 17 #[.agg r.v.toArray] w fun e w' => e = .returned (.int .i64 0) ∧ Below w.heap.size w w' := by
  have SV := Lib.hid (size_rep r)
  have v0 : r.v[0]? = some (.int .u8 r.c) := rfl
  have v1 : r.v[1]? = some (.int .u32 r.t) := rfl
  have v2 : r.v[2]? = some (.int .u32 r.a) := rfl
  have v3 : r.v[3]? = some (.int .u32 r.b) := rfl
  have v4 : r.v[4]? = some (.int .u32 r.d) := rfl
  have v5 : r.v[5]? = some (.int .u64 r.x) := rfl
  rw [h0] at v0
  have CL := fun W => long_2 W
  have d4 : decide (16 ≤ r.t) = false := decide_eq_false (by omega)
  have d5 : (r.x == 0) = true := beq_iff_eq.2 hx
  have ea : decide (1000000000 < r.a) = false := decide_eq_false (by omega)
  have eb : decide (1000000000 < r.b) = false := decide_eq_false (by omega)
  have ed : decide (1000000000 < r.d) = false := decide_eq_false (by omega)
  obtain ⟨V, hV⟩ : ∃ V, r.v = V := ⟨_, rfl⟩
  rw [hV] at SV v0 v1 v2 v3 v4 v5 ⊢
  clear hV
  go_enter Try.func17, Try.ntmps17
  go_upto_region 1 with fail
  refine F_gen (F := fun W => Code.wp _ _ _ _ W) (J := fun W => Box W (w.heap.size) (V) ∧ Below w.heap.size w W) (And.intro (Box.newc rfl rfl) (by go_grown)) ?_
  intro w0 ⟨e_r, hB0⟩
  have hs0 := hB0.size
  have x_r0 := e_r; clear e_r
  have ck := (x_r0).c 0 _ v0
  have zk := (x_r0).lt
  go_wp2_with fail
  refine (CL _).mono ?_
  rintro e w1 ⟨rfl, hb⟩
  clear ck zk
  have hB1 : Below w.heap.size w w1 := below_thru hB0 hb
  have hs1 := hB1.size
  have x_r1 : Box w1 (w.heap.size) (V) := Box.below x_r0 hb
  clear hB0 hs0 x_r0
  clear hb
  have ck := (x_r1).c 0 _ v0
  have zk := (x_r1).lt
  have cl := (x_r1).c 1 _ v1
  have cm := (x_r1).c 2 _ v2
  have cn := (x_r1).c 3 _ v3
  have co := (x_r1).c 4 _ v4
  have cp := (x_r1).c 5 _ v5
  go_wp2_with fail
  refine wp_loop_rounds 5 ?_
  rw [rounds_succ]
  go_wp2_with fail
  rw [rounds_succ]
  go_wp2_with fail
  rw [rounds_succ]
  go_wp2_with fail
  rw [rounds_succ]
  go_wp2_with fail
  go_returns
  exact ⟨rfl, hB1⟩
set_option maxRecDepth 100000 in
set_option maxHeartbeats 3200000 in
theorem rchk_3t (r : Rep) (h0 : r.c = 3) (ht : ¬ r.t < 16) (w : World) : Calls Try.prog 17 #[.agg r.v.toArray] w fun e w' => e = .returned (.int .i64 8) ∧ Below w.heap.size w w' := by
  have SV := Lib.hid (size_rep r)
  have v0 : r.v[0]? = some (.int .u8 r.c) := rfl
  have v1 : r.v[1]? = some (.int .u32 r.t) := rfl
  have v2 : r.v[2]? = some (.int .u32 r.a) := rfl
  have v3 : r.v[3]? = some (.int .u32 r.b) := rfl
  have v4 : r.v[4]? = some (.int .u32 r.d) := rfl
  have v5 : r.v[5]? = some (.int .u64 r.x) := rfl
  rw [h0] at v0
  have CL := fun W => long_3 W
  have d4 : decide (16 ≤ r.t) = true := decide_eq_true (by omega)
  obtain ⟨V, hV⟩ : ∃ V, r.v = V := ⟨_, rfl⟩
  rw [hV] at SV v0 v1 v2 v3 v4 v5 ⊢
  clear hV
  go_enter Try.func17, Try.ntmps17
  go_upto_region 1 with fail
  refine F_gen (F := fun W => Code.wp _ _ _ _ W) (J := fun W => Box W (w.heap.size) (V) ∧ Below w.heap.size w W) (And.intro (Box.newc rfl rfl) (by go_grown)) ?_
  intro w0 ⟨e_r, hB0⟩
  have hs0 := hB0.size
  have x_r0 := e_r; clear e_r
  have ck := (x_r0).c 0 _ v0
  have zk := (x_r0).lt
  go_wp2_with fail
  refine (CL _).mono ?_
  rintro e w1 ⟨rfl, hb⟩
  clear ck zk
  have hB1 : Below w.heap.size w w1 := below_thru hB0 hb
  have hs1 := hB1.size
  have x_r1 : Box w1 (w.heap.size) (V) := Box.below x_r0 hb
  clear hB0 hs0 x_r0
  clear hb
  have ck := (x_r1).c 0 _ v0
  have zk := (x_r1).lt
  have cl := (x_r1).c 1 _ v1
  have cm := (x_r1).c 2 _ v2
  have cn := (x_r1).c 3 _ v3
  have co := (x_r1).c 4 _ v4
  have cp := (x_r1).c 5 _ v5
  go_wp2_with fail
  go_returns
  exact ⟨rfl, hB1⟩
set_option maxRecDepth 100000 in
set_option maxHeartbeats 3200000 in
theorem rchk_3x (r : Rep) (h0 : r.c = 3) (ht : r.t < 16) (hx : ¬ 1 ≤ r.x) (w : World) : Calls Try.prog 17 #[.agg r.v.toArray] w fun e w' => e = .returned (.int .i64 8) ∧ Below w.heap.size w w' := by
  have SV := Lib.hid (size_rep r)
  have v0 : r.v[0]? = some (.int .u8 r.c) := rfl
  have v1 : r.v[1]? = some (.int .u32 r.t) := rfl
  have v2 : r.v[2]? = some (.int .u32 r.a) := rfl
  have v3 : r.v[3]? = some (.int .u32 r.b) := rfl
  have v4 : r.v[4]? = some (.int .u32 r.d) := rfl
  have v5 : r.v[5]? = some (.int .u64 r.x) := rfl
  rw [h0] at v0
  have CL := fun W => long_3 W
  have d4 : decide (16 ≤ r.t) = false := decide_eq_false (by omega)
  have d5 : (r.x == 0) = true := beq_iff_eq.2 (by have := r.hx; omega)
  obtain ⟨V, hV⟩ : ∃ V, r.v = V := ⟨_, rfl⟩
  rw [hV] at SV v0 v1 v2 v3 v4 v5 ⊢
  clear hV
  go_enter Try.func17, Try.ntmps17
  go_upto_region 1 with fail
  refine F_gen (F := fun W => Code.wp _ _ _ _ W) (J := fun W => Box W (w.heap.size) (V) ∧ Below w.heap.size w W) (And.intro (Box.newc rfl rfl) (by go_grown)) ?_
  intro w0 ⟨e_r, hB0⟩
  have hs0 := hB0.size
  have x_r0 := e_r; clear e_r
  have ck := (x_r0).c 0 _ v0
  have zk := (x_r0).lt
  go_wp2_with fail
  refine (CL _).mono ?_
  rintro e w1 ⟨rfl, hb⟩
  clear ck zk
  have hB1 : Below w.heap.size w w1 := below_thru hB0 hb
  have hs1 := hB1.size
  have x_r1 : Box w1 (w.heap.size) (V) := Box.below x_r0 hb
  clear hB0 hs0 x_r0
  clear hb
  have ck := (x_r1).c 0 _ v0
  have zk := (x_r1).lt
  have cl := (x_r1).c 1 _ v1
  have cm := (x_r1).c 2 _ v2
  have cn := (x_r1).c 3 _ v3
  have co := (x_r1).c 4 _ v4
  have cp := (x_r1).c 5 _ v5
  go_wp2_with fail
  go_returns
  exact ⟨rfl, hB1⟩
set_option maxRecDepth 100000 in
set_option maxHeartbeats 3200000 in
theorem rchk_3l0 (r : Rep) (h0 : r.c = 3) (ht : r.t < 16) (hx : 1 ≤ r.x) (ha : ¬ r.a ≤ 1000000000) (w : World) : Calls Try.prog 17 #[.agg r.v.toArray] w fun e w' => e = .returned (.int .i64 8) ∧ Below w.heap.size w w' := by
  have SV := Lib.hid (size_rep r)
  have v0 : r.v[0]? = some (.int .u8 r.c) := rfl
  have v1 : r.v[1]? = some (.int .u32 r.t) := rfl
  have v2 : r.v[2]? = some (.int .u32 r.a) := rfl
  have v3 : r.v[3]? = some (.int .u32 r.b) := rfl
  have v4 : r.v[4]? = some (.int .u32 r.d) := rfl
  have v5 : r.v[5]? = some (.int .u64 r.x) := rfl
  rw [h0] at v0
  have CL := fun W => long_3 W
  have d4 : decide (16 ≤ r.t) = false := decide_eq_false (by omega)
  have d5 : (r.x == 0) = false := beq_false_of_ne (by omega)
  have ea : decide (1000000000 < r.a) = true := decide_eq_true (by omega)
  obtain ⟨V, hV⟩ : ∃ V, r.v = V := ⟨_, rfl⟩
  rw [hV] at SV v0 v1 v2 v3 v4 v5 ⊢
  clear hV
  go_enter Try.func17, Try.ntmps17
  go_upto_region 1 with fail
  refine F_gen (F := fun W => Code.wp _ _ _ _ W) (J := fun W => Box W (w.heap.size) (V) ∧ Below w.heap.size w W) (And.intro (Box.newc rfl rfl) (by go_grown)) ?_
  intro w0 ⟨e_r, hB0⟩
  have hs0 := hB0.size
  have x_r0 := e_r; clear e_r
  have ck := (x_r0).c 0 _ v0
  have zk := (x_r0).lt
  go_wp2_with fail
  refine (CL _).mono ?_
  rintro e w1 ⟨rfl, hb⟩
  clear ck zk
  have hB1 : Below w.heap.size w w1 := below_thru hB0 hb
  have hs1 := hB1.size
  have x_r1 : Box w1 (w.heap.size) (V) := Box.below x_r0 hb
  clear hB0 hs0 x_r0
  clear hb
  have ck := (x_r1).c 0 _ v0
  have zk := (x_r1).lt
  have cl := (x_r1).c 1 _ v1
  have cm := (x_r1).c 2 _ v2
  have cn := (x_r1).c 3 _ v3
  have co := (x_r1).c 4 _ v4
  have cp := (x_r1).c 5 _ v5
  go_wp2_with fail
  refine wp_loop_rounds 5 ?_
  rw [rounds_succ]
  go_wp2_with fail
  go_returns
  exact ⟨rfl, hB1⟩
set_option maxRecDepth 100000 in
set_option maxHeartbeats 3200000 in
theorem rchk_3l1 (r : Rep) (h0 : r.c = 3) (ht : r.t < 16) (hx : 1 ≤ r.x) (ha : r.a ≤ 1000000000) (hb : ¬ r.b ≤ 1000000000) (w : World) : Calls Try.prog 17 #[.agg r.v.toArray] w fun e w' => e = .returned (.int .i64 8) ∧ Below w.heap.size w w' := by
  have SV := Lib.hid (size_rep r)
  have v0 : r.v[0]? = some (.int .u8 r.c) := rfl
  have v1 : r.v[1]? = some (.int .u32 r.t) := rfl
  have v2 : r.v[2]? = some (.int .u32 r.a) := rfl
  have v3 : r.v[3]? = some (.int .u32 r.b) := rfl
  have v4 : r.v[4]? = some (.int .u32 r.d) := rfl
  have v5 : r.v[5]? = some (.int .u64 r.x) := rfl
  rw [h0] at v0
  have CL := fun W => long_3 W
  have d4 : decide (16 ≤ r.t) = false := decide_eq_false (by omega)
  have d5 : (r.x == 0) = false := beq_false_of_ne (by omega)
  have ea : decide (1000000000 < r.a) = false := decide_eq_false (by omega)
  have eb : decide (1000000000 < r.b) = true := decide_eq_true (by omega)
  obtain ⟨V, hV⟩ : ∃ V, r.v = V := ⟨_, rfl⟩
  rw [hV] at SV v0 v1 v2 v3 v4 v5 ⊢
  clear hV
  go_enter Try.func17, Try.ntmps17
  go_upto_region 1 with fail
  refine F_gen (F := fun W => Code.wp _ _ _ _ W) (J := fun W => Box W (w.heap.size) (V) ∧ Below w.heap.size w W) (And.intro (Box.newc rfl rfl) (by go_grown)) ?_
  intro w0 ⟨e_r, hB0⟩
  have hs0 := hB0.size
  have x_r0 := e_r; clear e_r
  have ck := (x_r0).c 0 _ v0
  have zk := (x_r0).lt
  go_wp2_with fail
  refine (CL _).mono ?_
  rintro e w1 ⟨rfl, hb⟩
  clear ck zk
  have hB1 : Below w.heap.size w w1 := below_thru hB0 hb
  have hs1 := hB1.size
  have x_r1 : Box w1 (w.heap.size) (V) := Box.below x_r0 hb
  clear hB0 hs0 x_r0
  clear hb
  have ck := (x_r1).c 0 _ v0
  have zk := (x_r1).lt
  have cl := (x_r1).c 1 _ v1
  have cm := (x_r1).c 2 _ v2
  have cn := (x_r1).c 3 _ v3
  have co := (x_r1).c 4 _ v4
  have cp := (x_r1).c 5 _ v5
  go_wp2_with fail
  refine wp_loop_rounds 5 ?_
  rw [rounds_succ]
  go_wp2_with fail
  rw [rounds_succ]
  go_wp2_with fail
  go_returns
  exact ⟨rfl, hB1⟩
set_option maxRecDepth 100000 in
set_option maxHeartbeats 3200000 in
theorem rchk_3l2 (r : Rep) (h0 : r.c = 3) (ht : r.t < 16) (hx : 1 ≤ r.x) (ha : r.a ≤ 1000000000) (hb : r.b ≤ 1000000000) (hd : ¬ r.d ≤ 1000000000) (w : World) : Calls Try.prog 17 #[.agg r.v.toArray] w fun e w' => e = .returned (.int .i64 8) ∧ Below w.heap.size w w' := by
  have SV := Lib.hid (size_rep r)
  have v0 : r.v[0]? = some (.int .u8 r.c) := rfl
  have v1 : r.v[1]? = some (.int .u32 r.t) := rfl
  have v2 : r.v[2]? = some (.int .u32 r.a) := rfl
  have v3 : r.v[3]? = some (.int .u32 r.b) := rfl
  have v4 : r.v[4]? = some (.int .u32 r.d) := rfl
  have v5 : r.v[5]? = some (.int .u64 r.x) := rfl
  rw [h0] at v0
  have CL := fun W => long_3 W
  have d4 : decide (16 ≤ r.t) = false := decide_eq_false (by omega)
  have d5 : (r.x == 0) = false := beq_false_of_ne (by omega)
  have ea : decide (1000000000 < r.a) = false := decide_eq_false (by omega)
  have eb : decide (1000000000 < r.b) = false := decide_eq_false (by omega)
  have ed : decide (1000000000 < r.d) = true := decide_eq_true (by omega)
  obtain ⟨V, hV⟩ : ∃ V, r.v = V := ⟨_, rfl⟩
  rw [hV] at SV v0 v1 v2 v3 v4 v5 ⊢
  clear hV
  go_enter Try.func17, Try.ntmps17
  go_upto_region 1 with fail
  refine F_gen (F := fun W => Code.wp _ _ _ _ W) (J := fun W => Box W (w.heap.size) (V) ∧ Below w.heap.size w W) (And.intro (Box.newc rfl rfl) (by go_grown)) ?_
  intro w0 ⟨e_r, hB0⟩
  have hs0 := hB0.size
  have x_r0 := e_r; clear e_r
  have ck := (x_r0).c 0 _ v0
  have zk := (x_r0).lt
  go_wp2_with fail
  refine (CL _).mono ?_
  rintro e w1 ⟨rfl, hb⟩
  clear ck zk
  have hB1 : Below w.heap.size w w1 := below_thru hB0 hb
  have hs1 := hB1.size
  have x_r1 : Box w1 (w.heap.size) (V) := Box.below x_r0 hb
  clear hB0 hs0 x_r0
  clear hb
  have ck := (x_r1).c 0 _ v0
  have zk := (x_r1).lt
  have cl := (x_r1).c 1 _ v1
  have cm := (x_r1).c 2 _ v2
  have cn := (x_r1).c 3 _ v3
  have co := (x_r1).c 4 _ v4
  have cp := (x_r1).c 5 _ v5
  go_wp2_with fail
  refine wp_loop_rounds 5 ?_
  rw [rounds_succ]
  go_wp2_with fail
  rw [rounds_succ]
  go_wp2_with fail
  rw [rounds_succ]
  go_wp2_with fail
  go_returns
  exact ⟨rfl, hB1⟩
set_option maxRecDepth 100000 in
set_option maxHeartbeats 3200000 in
theorem rchk_3l3 (r : Rep) (h0 : r.c = 3) (ht : r.t < 16) (hx : 1 ≤ r.x) (ha : r.a ≤ 1000000000) (hb : r.b ≤ 1000000000) (hd : r.d ≤ 1000000000) (w : World) : Calls Try.prog 17 #[.agg r.v.toArray] w fun e w' => e = .returned (.int .i64 0) ∧ Below w.heap.size w w' := by
  have SV := Lib.hid (size_rep r)
  have v0 : r.v[0]? = some (.int .u8 r.c) := rfl
  have v1 : r.v[1]? = some (.int .u32 r.t) := rfl
  have v2 : r.v[2]? = some (.int .u32 r.a) := rfl
  have v3 : r.v[3]? = some (.int .u32 r.b) := rfl
  have v4 : r.v[4]? = some (.int .u32 r.d) := rfl
  have v5 : r.v[5]? = some (.int .u64 r.x) := rfl
  rw [h0] at v0
  have CL := fun W => long_3 W
  have d4 : decide (16 ≤ r.t) = false := decide_eq_false (by omega)
  have d5 : (r.x == 0) = false := beq_false_of_ne (by omega)
  have ea : decide (1000000000 < r.a) = false := decide_eq_false (by omega)
  have eb : decide (1000000000 < r.b) = false := decide_eq_false (by omega)
  have ed : decide (1000000000 < r.d) = false := decide_eq_false (by omega)
  obtain ⟨V, hV⟩ : ∃ V, r.v = V := ⟨_, rfl⟩
  rw [hV] at SV v0 v1 v2 v3 v4 v5 ⊢
  clear hV
  go_enter Try.func17, Try.ntmps17
  go_upto_region 1 with fail
  refine F_gen (F := fun W => Code.wp _ _ _ _ W) (J := fun W => Box W (w.heap.size) (V) ∧ Below w.heap.size w W) (And.intro (Box.newc rfl rfl) (by go_grown)) ?_
  intro w0 ⟨e_r, hB0⟩
  have hs0 := hB0.size
  have x_r0 := e_r; clear e_r
  have ck := (x_r0).c 0 _ v0
  have zk := (x_r0).lt
  go_wp2_with fail
  refine (CL _).mono ?_
  rintro e w1 ⟨rfl, hb⟩
  clear ck zk
  have hB1 : Below w.heap.size w w1 := below_thru hB0 hb
  have hs1 := hB1.size
  have x_r1 : Box w1 (w.heap.size) (V) := Box.below x_r0 hb
  clear hB0 hs0 x_r0
  clear hb
  have ck := (x_r1).c 0 _ v0
  have zk := (x_r1).lt
  have cl := (x_r1).c 1 _ v1
  have cm := (x_r1).c 2 _ v2
  have cn := (x_r1).c 3 _ v3
  have co := (x_r1).c 4 _ v4
  have cp := (x_r1).c 5 _ v5
  go_wp2_with fail
  refine wp_loop_rounds 5 ?_
  rw [rounds_succ]
  go_wp2_with fail
  rw [rounds_succ]
  go_wp2_with fail
  rw [rounds_succ]
  go_wp2_with fail
  rw [rounds_succ]
  go_wp2_with fail
  go_returns
  exact ⟨rfl, hB1⟩
theorem Sole.of {c : Int} (h : 1 ≤ c ∧ c ≤ 8) (h2 : c ≠ 2) (h3 : c ≠ 3) : Sole c := by unfold Sole; omega
theorem rchk_is (r : Rep) {q : Int} (hq : Hid (ChkE r q)) (w : World) : Calls Try.prog 17 #[.agg r.v.toArray] w fun e w' => e = .returned (.int .i64 q) ∧ Below w.heap.size w w' := by
  have h := hq.out
  clear hq
  have ht : r.Ok → q = 0 := fun g => by rcases h with ⟨h, _⟩ | ⟨_, h⟩; exact h; exact absurd g h
  have hf : ¬ r.Ok → q = 8 := fun g => by rcases h with ⟨_, h⟩ | ⟨h, _⟩; exact absurd h g; exact h
  clear h
  by_cases l1 : r.c < 1
  · rw [hf (fun g => by have := Rep.ok_code g; omega)]
    exact rchk_lo r l1 w
  by_cases l2 : 8 < r.c
  · rw [hf (fun g => by have := Rep.ok_code g; omega)]
    exact rchk_hi r l2 w
  by_cases h2 : r.c = 2
  · have iff := Rep.ok_2 h2
    unfold Rep.Ans Rep.Low at iff
    by_cases k1 : r.t < 16
    · by_cases k2 : r.x = 0
      · by_cases ka : r.a ≤ 1000000000
        · by_cases kb : r.b ≤ 1000000000
          · by_cases kd : r.d ≤ 1000000000
            · rw [ht (iff.2 ⟨⟨k1, ka, kb, kd⟩, k2⟩)]
              exact rchk_2l3 r h2 k1 k2 ka kb kd w
            · rw [hf (fun g => kd (iff.1 g).1.2.2.2)]
              exact rchk_2l2 r h2 k1 k2 ka kb kd w
          · rw [hf (fun g => kb (iff.1 g).1.2.2.1)]
            exact rchk_2l1 r h2 k1 k2 ka kb w
        · rw [hf (fun g => ka (iff.1 g).1.2.1)]
          exact rchk_2l0 r h2 k1 k2 ka w
      · rw [hf (fun g => k2 (iff.1 g).2)]
        exact rchk_2x r h2 k1 k2 w
    · rw [hf (fun g => k1 (iff.1 g).1.1)]
      exact rchk_2t r h2 k1 w
  by_cases h3 : r.c = 3
  · have iff := Rep.ok_3 h3
    unfold Rep.Ans Rep.Low at iff
    by_cases k1 : r.t < 16
    · by_cases k2 : 1 ≤ r.x
      · by_cases ka : r.a ≤ 1000000000
        · by_cases kb : r.b ≤ 1000000000
          · by_cases kd : r.d ≤ 1000000000
            · rw [ht (iff.2 ⟨⟨k1, ka, kb, kd⟩, k2⟩)]
              exact rchk_3l3 r h3 k1 k2 ka kb kd w
            · rw [hf (fun g => kd (iff.1 g).1.2.2.2)]
              exact rchk_3l2 r h3 k1 k2 ka kb kd w
          · rw [hf (fun g => kb (iff.1 g).1.2.2.1)]
            exact rchk_3l1 r h3 k1 k2 ka kb w
        · rw [hf (fun g => ka (iff.1 g).1.2.1)]
          exact rchk_3l0 r h3 k1 k2 ka w
      · rw [hf (fun g => k2 (iff.1 g).2)]
        exact rchk_3x r h3 k1 k2 w
    · rw [hf (fun g => k1 (iff.1 g).1.1)]
      exact rchk_3t r h3 k1 w
  have hs := Sole.of (c := r.c) (by omega) h2 h3
  by_cases he : r = r.alone
  · rw [ht ((Rep.ok_n h2 h3).2 ⟨hs, he⟩)]
    exact rchk_nt r (by omega) h2 h3 he w
  · rw [hf (fun g => he ((Rep.ok_n h2 h3).1 g).2)]
    exact rchk_nf r (by omega) h2 h3 he w

theorem lone_two {n : Int} (hn : 0 ≤ n ∧ n ≤ 255) (h : ¬ Sole n) (h2 : ¬ Two n) : ¬ (Rep.lone n hn).Ok := by
  rintro (g | g | g)
  · exact h2 (Or.inl g.1)
  · exact h2 (Or.inr g.1)
  · exact h g.1
set_option maxRecDepth 100000 in
set_option maxHeartbeats 6400000 in
theorem rcode_t (n : Int) (hn : 0 ≤ n ∧ n ≤ 255) (hs : Sole n) (w : World) : Calls Try.prog 15 #[.int .u8 n] w fun e w' => e = .returned (.tuple #[.agg (Rep.lone n hn).v.toArray, .int .i64 0]) ∧ Below w.heap.size w w' := by
  have SZ := Lib.hid (size_rep Rep.zero); have OZ := Lib.hid (one_rep Rep.zero); have BZ := fun W => build_rz W
  have BC := fun W => build_rc n hn W
  have SV := Lib.hid (size_rep (Rep.lone n hn)); have LV := Lib.hid (len_rep Rep.zero (Rep.lone n hn)); have OV := Lib.hid (one_rep (Rep.lone n hn))
  have CB := fun W => rchk_is (Rep.lone n hn) (q := 0) (Lib.hid (Or.inl ⟨rfl, Rep.lone_ok hn hs⟩)) W
  have CL := fun W => long_is (n := n) (q := false) (Lib.hid ⟨fun h => absurd h hs.not_two, fun h => by cases h⟩) W
  obtain ⟨V, hV⟩ : ∃ V, (Rep.lone n hn).v = V := ⟨_, rfl⟩
  rw [hV] at BC SV LV OV CB ⊢
  clear hV hs
  go_enter Try.func15, Try.ntmps15
  go_upto_region 1 with fail
  refine F_gen (F := fun W => Code.wp _ _ _ _ W) (J := fun W => Box W (w.heap.size) (Rep.zero.v) ∧ Below w.heap.size w W) (And.intro (Box.newc rfl rfl) (by go_grown)) ?_
  intro w0 ⟨e_r, hB0⟩
  have hs0 := hB0.size
  have x_r0 := e_r; clear e_r
  have d_a_r := (x_r0).lt
  have d_a_0 := hs0
  go_upto_region 2 with (first
    | (refine wpList_build9 rfl 26 _ rfl (us := #[(0, .int .u8 n)]) (by rfl) (BC _) ?_)
    | (refine wpList_store_box (cs := V) rfl _ _ _ rfl (Box.newc (l := Rep.zero.v) rfl rfl) rfl rfl SV.out LV.out OV.out ?_; intro W0_0 hW0_0))
  have hN : Below w0.heap.size w0 W0_0 := (hW0_0.below _ _ (by omega) ((Below.refl _ w0).alloc (Nat.le_refl _) _))
  have x_a1 : Box W0_0 (w0.heap.size) (V) := hW0_0.box
  have hB1 : Below w.heap.size w W0_0 := below_thru hB0 hN
  have hs1 := hB1.size
  have x_r1 : Box W0_0 (w.heap.size) (Rep.zero.v) := Box.below x_r0 hN
  clear hB0 hs0 x_r0
  clear hN hW0_0
  go_wp2_with (refine wpList_load_box9 rfl _ _ rfl x_a1 rfl Try.underlying26 rfl SV.out ?_)
  refine (CB _).mono ?_
  rintro e w2 ⟨rfl, hb⟩
  have hB2 : Below w.heap.size w w2 := below_thru hB1 hb
  have hs2 := hB2.size
  have x_r2 : Box w2 (w.heap.size) (Rep.zero.v) := Box.below x_r1 hb
  have x_a2 : Box w2 (w0.heap.size) (V) := Box.below x_a1 hb
  clear hB1 hs1 x_r1 x_a1
  clear hb
  go_wp2_with fail
  refine (CL _).mono ?_
  rintro e w8 ⟨rfl, hb⟩
  have hB3 : Below w.heap.size w w8 := below_thru hB2 hb
  have hs3 := hB3.size
  have x_r3 : Box w8 (w.heap.size) (Rep.zero.v) := Box.below x_r2 hb
  have x_a3 : Box w8 (w0.heap.size) (V) := Box.below x_a2 hb
  clear hB2 hs2 x_r2 x_a2
  clear hb
  have lq := (x_r3).lt
  go_wp2_with (first | (refine wpList_load_box9 rfl _ _ rfl x_a3 rfl Try.underlying26 rfl SV.out ?_) | (refine wpList_store_box (cs := V) rfl _ _ _ rfl x_r3 rfl rfl SV.out LV.out OV.out ?_; intro W99 hW99))
  exact bodyPost_ret (results_box2 Try.results15 hW99.box rfl rfl Try.underlying26 rfl SV.out) rfl ⟨rfl, hW99.below _ _ (by omega) hB3⟩
set_option maxRecDepth 100000 in
set_option maxHeartbeats 6400000 in
theorem rcode_f (n : Int) (hn : 0 ≤ n ∧ n ≤ 255) (hs : ¬ (Rep.lone n hn).Ok) (w : World) : Calls Try.prog 15 #[.int .u8 n] w fun e w' => e = .returned (.tuple #[.agg Rep.zero.v.toArray, .int .i64 2]) ∧ Below w.heap.size w w' := by
  have SZ := Lib.hid (size_rep Rep.zero); have OZ := Lib.hid (one_rep Rep.zero); have BZ := fun W => build_rz W
  have BC := fun W => build_rc n hn W
  have SV := Lib.hid (size_rep (Rep.lone n hn)); have LV := Lib.hid (len_rep Rep.zero (Rep.lone n hn)); have OV := Lib.hid (one_rep (Rep.lone n hn))
  have CB := fun W => rchk_is (Rep.lone n hn) (q := 8) (Lib.hid (Or.inr ⟨rfl, hs⟩)) W
  obtain ⟨V, hV⟩ : ∃ V, (Rep.lone n hn).v = V := ⟨_, rfl⟩
  rw [hV] at BC SV LV OV CB
  clear hV hs
  go_enter Try.func15, Try.ntmps15
  go_upto_region 1 with fail
  refine F_gen (F := fun W => Code.wp _ _ _ _ W) (J := fun W => Box W (w.heap.size) (Rep.zero.v) ∧ Below w.heap.size w W) (And.intro (Box.newc rfl rfl) (by go_grown)) ?_
  intro w0 ⟨e_r, hB0⟩
  have hs0 := hB0.size
  have x_r0 := e_r; clear e_r
  have d_a_r := (x_r0).lt
  have d_a_0 := hs0
  go_upto_region 2 with (first
    | (refine wpList_build9 rfl 26 _ rfl (us := #[(0, .int .u8 n)]) (by rfl) (BC _) ?_)
    | (refine wpList_store_box (cs := V) rfl _ _ _ rfl (Box.newc (l := Rep.zero.v) rfl rfl) rfl rfl SV.out LV.out OV.out ?_; intro W0_0 hW0_0))
  have hN : Below w0.heap.size w0 W0_0 := (hW0_0.below _ _ (by omega) ((Below.refl _ w0).alloc (Nat.le_refl _) _))
  have x_a1 : Box W0_0 (w0.heap.size) (V) := hW0_0.box
  have hB1 : Below w.heap.size w W0_0 := below_thru hB0 hN
  have hs1 := hB1.size
  have x_r1 : Box W0_0 (w.heap.size) (Rep.zero.v) := Box.below x_r0 hN
  clear hB0 hs0 x_r0
  clear hN hW0_0
  go_wp2_with (refine wpList_load_box9 rfl _ _ rfl x_a1 rfl Try.underlying26 rfl SV.out ?_)
  refine (CB _).mono ?_
  rintro e w2 ⟨rfl, hb⟩
  have hB2 : Below w.heap.size w w2 := below_thru hB1 hb
  have hs2 := hB2.size
  have x_r2 : Box w2 (w.heap.size) (Rep.zero.v) := Box.below x_r1 hb
  have x_a2 : Box w2 (w0.heap.size) (V) := Box.below x_a1 hb
  clear hB1 hs1 x_r1 x_a1
  clear hb
  have lq := (x_r2).lt
  go_wp2_with (first | (refine wpList_build9 rfl 26 _ rfl (us := #[]) (by rfl) (BZ _) ?_) | (refine wpList_store_box (cs := Rep.zero.v) rfl _ _ _ rfl x_r2 rfl rfl SZ.out (len_rep Rep.zero Rep.zero) OZ.out ?_; intro W99 hW99))
  exact bodyPost_ret (results_box2 Try.results15 hW99.box rfl rfl Try.underlying26 rfl SZ.out) rfl ⟨rfl, hW99.below _ _ (by omega) hB2⟩
set_option maxRecDepth 100000 in
set_option maxHeartbeats 6400000 in
theorem rcode_g (n : Int) (hn : 0 ≤ n ∧ n ≤ 255) (hs : (Rep.lone n hn).Ok) (h2 : Two n) (w : World) : Calls Try.prog 15 #[.int .u8 n] w fun e w' => e = .returned (.tuple #[.agg Rep.zero.v.toArray, .int .i64 2]) ∧ Below w.heap.size w w' := by
  have SZ := Lib.hid (size_rep Rep.zero); have OZ := Lib.hid (one_rep Rep.zero); have BZ := fun W => build_rz W
  have BC := fun W => build_rc n hn W
  have SV := Lib.hid (size_rep (Rep.lone n hn)); have LV := Lib.hid (len_rep Rep.zero (Rep.lone n hn)); have OV := Lib.hid (one_rep (Rep.lone n hn))
  have CB := fun W => rchk_is (Rep.lone n hn) (q := 0) (Lib.hid (Or.inl ⟨rfl, hs⟩)) W
  have CL := fun W => long_is (n := n) (q := true) (Lib.hid ⟨fun _ => rfl, fun _ => h2⟩) W
  clear h2
  obtain ⟨V, hV⟩ : ∃ V, (Rep.lone n hn).v = V := ⟨_, rfl⟩
  rw [hV] at BC SV LV OV CB
  clear hV hs
  go_enter Try.func15, Try.ntmps15
  go_upto_region 1 with fail
  refine F_gen (F := fun W => Code.wp _ _ _ _ W) (J := fun W => Box W (w.heap.size) (Rep.zero.v) ∧ Below w.heap.size w W) (And.intro (Box.newc rfl rfl) (by go_grown)) ?_
  intro w0 ⟨e_r, hB0⟩
  have hs0 := hB0.size
  have x_r0 := e_r; clear e_r
  have d_a_r := (x_r0).lt
  have d_a_0 := hs0
  go_upto_region 2 with (first
    | (refine wpList_build9 rfl 26 _ rfl (us := #[(0, .int .u8 n)]) (by rfl) (BC _) ?_)
    | (refine wpList_store_box (cs := V) rfl _ _ _ rfl (Box.newc (l := Rep.zero.v) rfl rfl) rfl rfl SV.out LV.out OV.out ?_; intro W0_0 hW0_0))
  have hN : Below w0.heap.size w0 W0_0 := (hW0_0.below _ _ (by omega) ((Below.refl _ w0).alloc (Nat.le_refl _) _))
  have x_a1 : Box W0_0 (w0.heap.size) (V) := hW0_0.box
  have hB1 : Below w.heap.size w W0_0 := below_thru hB0 hN
  have hs1 := hB1.size
  have x_r1 : Box W0_0 (w.heap.size) (Rep.zero.v) := Box.below x_r0 hN
  clear hB0 hs0 x_r0
  clear hN hW0_0
  go_wp2_with (refine wpList_load_box9 rfl _ _ rfl x_a1 rfl Try.underlying26 rfl SV.out ?_)
  refine (CB _).mono ?_
  rintro e w2 ⟨rfl, hb⟩
  have hB2 : Below w.heap.size w w2 := below_thru hB1 hb
  have hs2 := hB2.size
  have x_r2 : Box w2 (w.heap.size) (Rep.zero.v) := Box.below x_r1 hb
  have x_a2 : Box w2 (w0.heap.size) (V) := Box.below x_a1 hb
  clear hB1 hs1 x_r1 x_a1
  clear hb
  go_wp2_with fail
  refine (CL _).mono ?_
  rintro e w8 ⟨rfl, hb⟩
  have hB3 : Below w.heap.size w w8 := below_thru hB2 hb
  have hs3 := hB3.size
  have x_r3 : Box w8 (w.heap.size) (Rep.zero.v) := Box.below x_r2 hb
  have x_a3 : Box w8 (w0.heap.size) (V) := Box.below x_a2 hb
  clear hB2 hs2 x_r2 x_a2
  clear hb
  have lq := (x_r3).lt
  go_wp2_with (first | (refine wpList_build9 rfl 26 _ rfl (us := #[]) (by rfl) (BZ _) ?_) | (refine wpList_store_box (cs := Rep.zero.v) rfl _ _ _ rfl x_r3 rfl rfl SZ.out (len_rep Rep.zero Rep.zero) OZ.out ?_; intro W99 hW99))
  exact bodyPost_ret (results_box2 Try.results15 hW99.box rfl rfl Try.underlying26 rfl SZ.out) rfl ⟨rfl, hW99.below _ _ (by omega) hB3⟩
theorem rcode_is (n : Int) (hn : 0 ≤ n ∧ n ≤ 255) {G : Rep} {q : Int} (h : CodeOf n G q) (w : World) : Calls Try.prog 15 #[.int .u8 n] w fun e w' => e = .returned (.tuple #[.agg G.v.toArray, .int .i64 q]) ∧ Below w.heap.size w w' := by
  rcases h with ⟨rfl, hs, _, rfl⟩ | ⟨rfl, hs, rfl⟩
  · exact rcode_t n hn hs w
  · by_cases ho : (Rep.lone n hn).Ok
    · by_cases h2 : Two n
      · exact rcode_g n hn ho h2 w
      · exact absurd ho (lone_two hn hs h2)
    · exact rcode_f n hn ho w

end Go.Proofs.Ytipkgflonioacaa
