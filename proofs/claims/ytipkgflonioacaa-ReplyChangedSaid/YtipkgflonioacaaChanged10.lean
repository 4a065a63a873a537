/-
  ReplyChanged, walked.
-/
import Derived.Test.YtipkgflonioacaaAlive10
import Derived.Laws.BitsAllLaws
namespace Go.Proofs.Ytipkgflonioacaa
open Go.RowKit

theorem xor_ne10 {x y : Int} (hx : 0 ≤ x ∧ x ≤ 255) (hy : 0 ≤ y ∧ y ≤ 255) (h : y ≠ 0) : bits .xor .u8 x y ≠ x ∧ 0 ≤ bits .xor .u8 x y ∧ bits .xor .u8 x y ≤ 255 := by
  rw [u8_xor x y hx.1 (by omega) hy.1 (by omega)]
  have hlt : x.toNat ^^^ y.toNat < 2 ^ 8 := Nat.xor_lt_two_pow (by omega) (by omega)
  refine ⟨fun q => ?_, by omega, by omega⟩
  have h4 : x.toNat ^^^ y.toNat = x.toNat := by omega
  have h5 : x.toNat ^^^ (x.toNat ^^^ y.toNat) = x.toNat ^^^ x.toNat := by rw [h4]
  rw [← Nat.xor_assoc, Nat.xor_self, Nat.zero_xor] at h5
  omega
theorem set_ne10 {xs : List Int} {k : Nat} {u : Int} (hk : k < xs.length) (hu : u ≠ nth xs k) : xs.set k u ≠ xs := fun h => hu (by
  have h1 : (xs.set k u)[k]? = some u := by rw [List.getElem?_set_self hk]
  rw [h] at h1
  unfold nth
  simp [h1])
/-- The four digits of a word, and what putting them together goes through. -/
structure Dig (z y0 y1 y2 y3 m1 p2 m2 p3 m3 : Int) : Prop where
  b : be 4 z = [y0, y1, y2, y3]
  w0 : IntKind.u32.wrap y0 = y0
  w1 : IntKind.u32.wrap y1 = y1
  w2 : IntKind.u32.wrap y2 = y2
  w3 : IntKind.u32.wrap y3 = y3
  e1 : IntKind.u32.wrap (256 * y0) = m1
  e2 : IntKind.u32.wrap (m1 + y1) = p2
  e3 : IntKind.u32.wrap (256 * p2) = m2
  e4 : IntKind.u32.wrap (m2 + y2) = p3
  e5 : IntKind.u32.wrap (256 * p3) = m3
  e6 : IntKind.u32.wrap (m3 + y3) = z
theorem dig_of {z : Int} (h : 0 ≤ z ∧ z ≤ 4294967295) : ∃ y0 y1 y2 y3 m1 p2 m2 p3 m3, Dig z y0 y1 y2 y3 m1 p2 m2 p3 m3 := by
  have hb : be 4 z = [z / 256 / 256 / 256 % 256, z / 256 / 256 % 256, z / 256 % 256, z % 256] := rfl
  refine ⟨_, _, _, _, 256 * (z / 256 / 256 / 256 % 256), z / 256 / 256, 256 * (z / 256 / 256), z / 256, 256 * (z / 256), ⟨hb, ?_, ?_, ?_, ?_, ?_, ?_, ?_, ?_, ?_, ?_⟩⟩ <;> rw [IntKind.wrap_u32] <;> omega
theorem lev_at (r : Rep) {A B C : List Int} (ha : be 4 r.a = A) (hb : be 4 r.b = B) (hd : be 4 r.d = C) (i : Nat) (x : Int) (h : (A ++ B ++ C)[i]? = some x) : (r.bs.map (Value.int .u8))[8 + i]? = some (.int .u8 x) := by
  have e : r.bs = (r.c :: 0 :: 0 :: 0 :: be 4 r.t) ++ ((A ++ B ++ C) ++ (be 8 r.x ++ [0, 0, 0, 0])) := by rw [← ha, ← hb, ← hd]; unfold Rep.bs; simp
  have hl : (r.c :: 0 :: 0 :: 0 :: be 4 r.t).length = 8 := by simp [be_len]
  have hi := (List.getElem?_eq_some_iff.1 h).1
  rw [List.getElem?_map, e, List.getElem?_append_right (by omega), hl, Nat.add_sub_cancel_left, List.getElem?_append_left hi, h]
  rfl

set_option maxRecDepth 100000 in
set_option maxHeartbeats 25600000 in
theorem ch10_r1 (r : Rep) (hA : r.Ok) {at0 by0 : Int} (d1 : decide (at0 < 0) = true) (w : World) : Calls Try.prog 8 #[.agg r.v.toArray, .int .i64 at0, .int .u8 by0] w fun e w' => e = .returned (.bool true) ∧ Below w.heap.size w w' := by
  have SV := Lib.hid (size_rep r)
  have WF := fun W => pwr_is r (xs := r.bs) (q := 0) (Or.inl ⟨rfl, hA, rfl⟩) W
  have hl := r.bs_len
  have v2 : r.v[2]? = some (.int .u32 r.a) := rfl
  have v3 : r.v[3]? = some (.int .u32 r.b) := rfl
  have v4 : r.v[4]? = some (.int .u32 r.d) := rfl
  obtain ⟨a0, a1, a2, a3, am1, ap2, am2, ap3, am3, Da⟩ := dig_of r.ha
  obtain ⟨b0, b1, b2, b3, bm1, bp2, bm2, bp3, bm3, Db⟩ := dig_of r.hb
  obtain ⟨d0, d1, d2, d3, dm1, dp2, dm2, dp3, dm3, Dd⟩ := dig_of r.hd
  have x0 := lev_at r Da.b Db.b Dd.b 0 _ rfl
  have x1 := lev_at r Da.b Db.b Dd.b 1 _ rfl
  have x2 := lev_at r Da.b Db.b Dd.b 2 _ rfl
  have x3 := lev_at r Da.b Db.b Dd.b 3 _ rfl
  have x4 := lev_at r Da.b Db.b Dd.b 4 _ rfl
  have x5 := lev_at r Da.b Db.b Dd.b 5 _ rfl
  have x6 := lev_at r Da.b Db.b Dd.b 6 _ rfl
  have x7 := lev_at r Da.b Db.b Dd.b 7 _ rfl
  have x8 := lev_at r Da.b Db.b Dd.b 8 _ rfl
  have x9 := lev_at r Da.b Db.b Dd.b 9 _ rfl
  have x10 := lev_at r Da.b Db.b Dd.b 10 _ rfl
  have x11 := lev_at r Da.b Db.b Dd.b 11 _ rfl
  have wa0 := Da.w0; have wa1 := Da.w1; have wa2 := Da.w2; have wa3 := Da.w3
  have ea1 := Da.e1; have ea2 := Da.e2; have ea3 := Da.e3; have ea4 := Da.e4; have ea5 := Da.e5; have ea6 := Da.e6
  have wb0 := Db.w0; have wb1 := Db.w1; have wb2 := Db.w2; have wb3 := Db.w3
  have eb1 := Db.e1; have eb2 := Db.e2; have eb3 := Db.e3; have eb4 := Db.e4; have eb5 := Db.e5; have eb6 := Db.e6
  have wd0 := Dd.w0; have wd1 := Dd.w1; have wd2 := Dd.w2; have wd3 := Dd.w3
  have ed1 := Dd.e1; have ed2 := Dd.e2; have ed3 := Dd.e3; have ed4 := Dd.e4; have ed5 := Dd.e5; have ed6 := Dd.e6
  obtain ⟨za, hza⟩ : ∃ z, r.a = z := ⟨_, rfl⟩; rw [hza] at ea6 v2
  obtain ⟨zb, hzb⟩ : ∃ z, r.b = z := ⟨_, rfl⟩; rw [hzb] at eb6 v3
  obtain ⟨zd, hzd⟩ : ∃ z, r.d = z := ⟨_, rfl⟩; rw [hzd] at ed6 v4
  obtain ⟨XS, hXS⟩ : ∃ X, r.bs = X := ⟨_, rfl⟩
  rw [hXS] at WF x0 x1 x2 x3 x4 x5 x6 x7 x8 x9 x10 x11 hl
  have LX := Lib.hid hl
  obtain ⟨V, hV⟩ : ∃ V, r.v = V := ⟨_, rfl⟩
  rw [hV] at SV v2 v3 v4 WF ⊢
  clear hXS hV hA hl hza hzb hzd Da Db Dd
  go_enter Try.func8, Try.ntmps8
  go_upto_region 1 with fail
  refine F_gen (F := fun W => Code.wp _ _ _ _ W) (J := fun W => Box W (w.heap.size) (V) ∧ Below w.heap.size w W) (And.intro (Box.newc rfl rfl) (by go_grown)) ?_
  intro w0 ⟨e_r, hB0⟩
  have hs0 := hB0.size
  have x_r0 := e_r; clear e_r
  have zf := (x_r0).lt
  go_wp2_with (refine wpList_load_box9 rfl _ _ rfl x_r0 rfl Try.underlying26 rfl SV.out ?_)
  refine (WF _).mono ?_
  rintro e w1 ⟨va, rfl, hoa, hb⟩
  clear WF
  have hB1 : Below w.heap.size w w1 := below_thru hB0 hb
  have hs1 := hB1.size
  have x_r1 : Box w1 (w.heap.size) (V) := Box.below x_r0 hb
  clear hB0 hs0 x_r0
  clear hb
  obtain ⟨ga, ca, rfl, hga, lo, _, hbx⟩ := own_box hoa (by rw [LX.out]; decide)
  rw [LX.out] at lo ⊢
  have low_x : w.heap.size < ga := by omega
  clear zf hga hoa
  have x_x1 : Box w1 (ga) (XS.map (Value.int .u8)) := hbx
  clear hbx
  have c0 := (x_x1).c 8 _ x0
  have c1 := (x_x1).c 9 _ x1
  have c2 := (x_x1).c 10 _ x2
  have c3 := (x_x1).c 11 _ x3
  have c4 := (x_x1).c 12 _ x4
  have c5 := (x_x1).c 13 _ x5
  have c6 := (x_x1).c 14 _ x6
  have c7 := (x_x1).c 15 _ x7
  have c8 := (x_x1).c 16 _ x8
  have c9 := (x_x1).c 17 _ x9
  have c10 := (x_x1).c 18 _ x10
  have c11 := (x_x1).c 19 _ x11
  have ka := (x_r1).c 2 _ v2
  have kb := (x_r1).c 3 _ v3
  have kd := (x_r1).c 4 _ v4
  have zx := (x_x1).lt; have zr := (x_r1).lt
  go_wp2_with fail
  refine wp_loop_rounds 5 ?_
  rw [rounds_succ]
  go_wp2_with fail
  refine wp_loop_rounds 6 ?_
  rw [rounds_succ]
  go_wp2_with fail
  rw [rounds_succ]
  go_wp2_with fail
  rw [rounds_succ]
  go_wp2_with fail
  rw [rounds_succ]
  go_wp2_with fail
  rw [rounds_succ]
  go_wp2_with fail
  rw [rounds_succ]
  go_wp2_with fail
  refine wp_loop_rounds 6 ?_
  rw [rounds_succ]
  go_wp2_with fail
  rw [rounds_succ]
  go_wp2_with fail
  rw [rounds_succ]
  go_wp2_with fail
  rw [rounds_succ]
  go_wp2_with fail
  rw [rounds_succ]
  go_wp2_with fail
  rw [rounds_succ]
  go_wp2_with fail
  refine wp_loop_rounds 6 ?_
  rw [rounds_succ]
  go_wp2_with fail
  rw [rounds_succ]
  go_wp2_with fail
  rw [rounds_succ]
  go_wp2_with fail
  rw [rounds_succ]
  go_wp2_with fail
  rw [rounds_succ]
  go_wp2_with fail
  rw [rounds_succ]
  go_upto_region 17 with fail
  clear c0 c1 c2 c3 c4 c5 c6 c7 c8 c9 c10 c11 ka kb kd zx zr
  go_wp2_with fail
  refine (alive10_is _).mono ?_
  rintro e w2 ⟨rfl, hb⟩
  have hB2 : Below w.heap.size w w2 := below_thru hB1 hb
  have hs2 := hB2.size
  have x_r2 : Box w2 (w.heap.size) (V) := Box.below x_r1 hb
  have x_x2 : Box w2 (ga) (XS.map (Value.int .u8)) := Box.below x_x1 hb
  clear hB1 hs1 x_r1 x_x1
  clear hb
  go_wp2_with fail
  go_returns
  exact ⟨rfl, hB2⟩

set_option maxRecDepth 100000 in
set_option maxHeartbeats 25600000 in
theorem ch10_r2 (r : Rep) (hA : r.Ok) {at0 by0 : Int} (d1 : decide (at0 < 0) = false) (d2 : decide (32 ≤ at0) = true) (w : World) : Calls Try.prog 8 #[.agg r.v.toArray, .int .i64 at0, .int .u8 by0] w fun e w' => e = .returned (.bool true) ∧ Below w.heap.size w w' := by
  have SV := Lib.hid (size_rep r)
  have WF := fun W => pwr_is r (xs := r.bs) (q := 0) (Or.inl ⟨rfl, hA, rfl⟩) W
  have hl := r.bs_len
  have v2 : r.v[2]? = some (.int .u32 r.a) := rfl
  have v3 : r.v[3]? = some (.int .u32 r.b) := rfl
  have v4 : r.v[4]? = some (.int .u32 r.d) := rfl
  obtain ⟨a0, a1, a2, a3, am1, ap2, am2, ap3, am3, Da⟩ := dig_of r.ha
  obtain ⟨b0, b1, b2, b3, bm1, bp2, bm2, bp3, bm3, Db⟩ := dig_of r.hb
  obtain ⟨d0, d1, d2, d3, dm1, dp2, dm2, dp3, dm3, Dd⟩ := dig_of r.hd
  have x0 := lev_at r Da.b Db.b Dd.b 0 _ rfl
  have x1 := lev_at r Da.b Db.b Dd.b 1 _ rfl
  have x2 := lev_at r Da.b Db.b Dd.b 2 _ rfl
  have x3 := lev_at r Da.b Db.b Dd.b 3 _ rfl
  have x4 := lev_at r Da.b Db.b Dd.b 4 _ rfl
  have x5 := lev_at r Da.b Db.b Dd.b 5 _ rfl
  have x6 := lev_at r Da.b Db.b Dd.b 6 _ rfl
  have x7 := lev_at r Da.b Db.b Dd.b 7 _ rfl
  have x8 := lev_at r Da.b Db.b Dd.b 8 _ rfl
  have x9 := lev_at r Da.b Db.b Dd.b 9 _ rfl
  have x10 := lev_at r Da.b Db.b Dd.b 10 _ rfl
  have x11 := lev_at r Da.b Db.b Dd.b 11 _ rfl
  have wa0 := Da.w0; have wa1 := Da.w1; have wa2 := Da.w2; have wa3 := Da.w3
  have ea1 := Da.e1; have ea2 := Da.e2; have ea3 := Da.e3; have ea4 := Da.e4; have ea5 := Da.e5; have ea6 := Da.e6
  have wb0 := Db.w0; have wb1 := Db.w1; have wb2 := Db.w2; have wb3 := Db.w3
  have eb1 := Db.e1; have eb2 := Db.e2; have eb3 := Db.e3; have eb4 := Db.e4; have eb5 := Db.e5; have eb6 := Db.e6
  have wd0 := Dd.w0; have wd1 := Dd.w1; have wd2 := Dd.w2; have wd3 := Dd.w3
  have ed1 := Dd.e1; have ed2 := Dd.e2; have ed3 := Dd.e3; have ed4 := Dd.e4; have ed5 := Dd.e5; have ed6 := Dd.e6
  obtain ⟨za, hza⟩ : ∃ z, r.a = z := ⟨_, rfl⟩; rw [hza] at ea6 v2
  obtain ⟨zb, hzb⟩ : ∃ z, r.b = z := ⟨_, rfl⟩; rw [hzb] at eb6 v3
  obtain ⟨zd, hzd⟩ : ∃ z, r.d = z := ⟨_, rfl⟩; rw [hzd] at ed6 v4
  obtain ⟨XS, hXS⟩ : ∃ X, r.bs = X := ⟨_, rfl⟩
  rw [hXS] at WF x0 x1 x2 x3 x4 x5 x6 x7 x8 x9 x10 x11 hl
  have LX := Lib.hid hl
  obtain ⟨V, hV⟩ : ∃ V, r.v = V := ⟨_, rfl⟩
  rw [hV] at SV v2 v3 v4 WF ⊢
  clear hXS hV hA hl hza hzb hzd Da Db Dd
  go_enter Try.func8, Try.ntmps8
  go_upto_region 1 with fail
  refine F_gen (F := fun W => Code.wp _ _ _ _ W) (J := fun W => Box W (w.heap.size) (V) ∧ Below w.heap.size w W) (And.intro (Box.newc rfl rfl) (by go_grown)) ?_
  intro w0 ⟨e_r, hB0⟩
  have hs0 := hB0.size
  have x_r0 := e_r; clear e_r
  have zf := (x_r0).lt
  go_wp2_with (refine wpList_load_box9 rfl _ _ rfl x_r0 rfl Try.underlying26 rfl SV.out ?_)
  refine (WF _).mono ?_
  rintro e w1 ⟨va, rfl, hoa, hb⟩
  clear WF
  have hB1 : Below w.heap.size w w1 := below_thru hB0 hb
  have hs1 := hB1.size
  have x_r1 : Box w1 (w.heap.size) (V) := Box.below x_r0 hb
  clear hB0 hs0 x_r0
  clear hb
  obtain ⟨ga, ca, rfl, hga, lo, _, hbx⟩ := own_box hoa (by rw [LX.out]; decide)
  rw [LX.out] at lo ⊢
  have low_x : w.heap.size < ga := by omega
  clear zf hga hoa
  have x_x1 : Box w1 (ga) (XS.map (Value.int .u8)) := hbx
  clear hbx
  have c0 := (x_x1).c 8 _ x0
  have c1 := (x_x1).c 9 _ x1
  have c2 := (x_x1).c 10 _ x2
  have c3 := (x_x1).c 11 _ x3
  have c4 := (x_x1).c 12 _ x4
  have c5 := (x_x1).c 13 _ x5
  have c6 := (x_x1).c 14 _ x6
  have c7 := (x_x1).c 15 _ x7
  have c8 := (x_x1).c 16 _ x8
  have c9 := (x_x1).c 17 _ x9
  have c10 := (x_x1).c 18 _ x10
  have c11 := (x_x1).c 19 _ x11
  have ka := (x_r1).c 2 _ v2
  have kb := (x_r1).c 3 _ v3
  have kd := (x_r1).c 4 _ v4
  have zx := (x_x1).lt; have zr := (x_r1).lt
  go_wp2_with fail
  refine wp_loop_rounds 5 ?_
  rw [rounds_succ]
  go_wp2_with fail
  refine wp_loop_rounds 6 ?_
  rw [rounds_succ]
  go_wp2_with fail
  rw [rounds_succ]
  go_wp2_with fail
  rw [rounds_succ]
  go_wp2_with fail
  rw [rounds_succ]
  go_wp2_with fail
  rw [rounds_succ]
  go_wp2_with fail
  rw [rounds_succ]
  go_wp2_with fail
  refine wp_loop_rounds 6 ?_
  rw [rounds_succ]
  go_wp2_with fail
  rw [rounds_succ]
  go_wp2_with fail
  rw [rounds_succ]
  go_wp2_with fail
  rw [rounds_succ]
  go_wp2_with fail
  rw [rounds_succ]
  go_wp2_with fail
  rw [rounds_succ]
  go_wp2_with fail
  refine wp_loop_rounds 6 ?_
  rw [rounds_succ]
  go_wp2_with fail
  rw [rounds_succ]
  go_wp2_with fail
  rw [rounds_succ]
  go_wp2_with fail
  rw [rounds_succ]
  go_wp2_with fail
  rw [rounds_succ]
  go_wp2_with fail
  rw [rounds_succ]
  go_upto_region 17 with fail
  clear c0 c1 c2 c3 c4 c5 c6 c7 c8 c9 c10 c11 ka kb kd zx zr
  go_wp2_with fail
  refine (alive10_is _).mono ?_
  rintro e w2 ⟨rfl, hb⟩
  have hB2 : Below w.heap.size w w2 := below_thru hB1 hb
  have hs2 := hB2.size
  have x_r2 : Box w2 (w.heap.size) (V) := Box.below x_r1 hb
  have x_x2 : Box w2 (ga) (XS.map (Value.int .u8)) := Box.below x_x1 hb
  clear hB1 hs1 x_r1 x_x1
  clear hb
  go_wp2_with fail
  go_returns
  exact ⟨rfl, hB2⟩

set_option maxRecDepth 100000 in
set_option maxHeartbeats 25600000 in
theorem ch10_r3 (r : Rep) (hA : r.Ok) {at0 : Int} (d1 : decide (at0 < 0) = false) (d2 : decide (32 ≤ at0) = false) (w : World) : Calls Try.prog 8 #[.agg r.v.toArray, .int .i64 at0, .int .u8 0] w fun e w' => e = .returned (.bool true) ∧ Below w.heap.size w w' := by
  have SV := Lib.hid (size_rep r)
  have WF := fun W => pwr_is r (xs := r.bs) (q := 0) (Or.inl ⟨rfl, hA, rfl⟩) W
  have hl := r.bs_len
  have v2 : r.v[2]? = some (.int .u32 r.a) := rfl
  have v3 : r.v[3]? = some (.int .u32 r.b) := rfl
  have v4 : r.v[4]? = some (.int .u32 r.d) := rfl
  obtain ⟨a0, a1, a2, a3, am1, ap2, am2, ap3, am3, Da⟩ := dig_of r.ha
  obtain ⟨b0, b1, b2, b3, bm1, bp2, bm2, bp3, bm3, Db⟩ := dig_of r.hb
  obtain ⟨d0, d1, d2, d3, dm1, dp2, dm2, dp3, dm3, Dd⟩ := dig_of r.hd
  have x0 := lev_at r Da.b Db.b Dd.b 0 _ rfl
  have x1 := lev_at r Da.b Db.b Dd.b 1 _ rfl
  have x2 := lev_at r Da.b Db.b Dd.b 2 _ rfl
  have x3 := lev_at r Da.b Db.b Dd.b 3 _ rfl
  have x4 := lev_at r Da.b Db.b Dd.b 4 _ rfl
  have x5 := lev_at r Da.b Db.b Dd.b 5 _ rfl
  have x6 := lev_at r Da.b Db.b Dd.b 6 _ rfl
  have x7 := lev_at r Da.b Db.b Dd.b 7 _ rfl
  have x8 := lev_at r Da.b Db.b Dd.b 8 _ rfl
  have x9 := lev_at r Da.b Db.b Dd.b 9 _ rfl
  have x10 := lev_at r Da.b Db.b Dd.b 10 _ rfl
  have x11 := lev_at r Da.b Db.b Dd.b 11 _ rfl
  have wa0 := Da.w0; have wa1 := Da.w1; have wa2 := Da.w2; have wa3 := Da.w3
  have ea1 := Da.e1; have ea2 := Da.e2; have ea3 := Da.e3; have ea4 := Da.e4; have ea5 := Da.e5; have ea6 := Da.e6
  have wb0 := Db.w0; have wb1 := Db.w1; have wb2 := Db.w2; have wb3 := Db.w3
  have eb1 := Db.e1; have eb2 := Db.e2; have eb3 := Db.e3; have eb4 := Db.e4; have eb5 := Db.e5; have eb6 := Db.e6
  have wd0 := Dd.w0; have wd1 := Dd.w1; have wd2 := Dd.w2; have wd3 := Dd.w3
  have ed1 := Dd.e1; have ed2 := Dd.e2; have ed3 := Dd.e3; have ed4 := Dd.e4; have ed5 := Dd.e5; have ed6 := Dd.e6
  obtain ⟨za, hza⟩ : ∃ z, r.a = z := ⟨_, rfl⟩; rw [hza] at ea6 v2
  obtain ⟨zb, hzb⟩ : ∃ z, r.b = z := ⟨_, rfl⟩; rw [hzb] at eb6 v3
  obtain ⟨zd, hzd⟩ : ∃ z, r.d = z := ⟨_, rfl⟩; rw [hzd] at ed6 v4
  obtain ⟨XS, hXS⟩ : ∃ X, r.bs = X := ⟨_, rfl⟩
  rw [hXS] at WF x0 x1 x2 x3 x4 x5 x6 x7 x8 x9 x10 x11 hl
  have LX := Lib.hid hl
  obtain ⟨V, hV⟩ : ∃ V, r.v = V := ⟨_, rfl⟩
  rw [hV] at SV v2 v3 v4 WF ⊢
  clear hXS hV hA hl hza hzb hzd Da Db Dd
  go_enter Try.func8, Try.ntmps8
  go_upto_region 1 with fail
  refine F_gen (F := fun W => Code.wp _ _ _ _ W) (J := fun W => Box W (w.heap.size) (V) ∧ Below w.heap.size w W) (And.intro (Box.newc rfl rfl) (by go_grown)) ?_
  intro w0 ⟨e_r, hB0⟩
  have hs0 := hB0.size
  have x_r0 := e_r; clear e_r
  have zf := (x_r0).lt
  go_wp2_with (refine wpList_load_box9 rfl _ _ rfl x_r0 rfl Try.underlying26 rfl SV.out ?_)
  refine (WF _).mono ?_
  rintro e w1 ⟨va, rfl, hoa, hb⟩
  clear WF
  have hB1 : Below w.heap.size w w1 := below_thru hB0 hb
  have hs1 := hB1.size
  have x_r1 : Box w1 (w.heap.size) (V) := Box.below x_r0 hb
  clear hB0 hs0 x_r0
  clear hb
  obtain ⟨ga, ca, rfl, hga, lo, _, hbx⟩ := own_box hoa (by rw [LX.out]; decide)
  rw [LX.out] at lo ⊢
  have low_x : w.heap.size < ga := by omega
  clear zf hga hoa
  have x_x1 : Box w1 (ga) (XS.map (Value.int .u8)) := hbx
  clear hbx
  have c0 := (x_x1).c 8 _ x0
  have c1 := (x_x1).c 9 _ x1
  have c2 := (x_x1).c 10 _ x2
  have c3 := (x_x1).c 11 _ x3
  have c4 := (x_x1).c 12 _ x4
  have c5 := (x_x1).c 13 _ x5
  have c6 := (x_x1).c 14 _ x6
  have c7 := (x_x1).c 15 _ x7
  have c8 := (x_x1).c 16 _ x8
  have c9 := (x_x1).c 17 _ x9
  have c10 := (x_x1).c 18 _ x10
  have c11 := (x_x1).c 19 _ x11
  have ka := (x_r1).c 2 _ v2
  have kb := (x_r1).c 3 _ v3
  have kd := (x_r1).c 4 _ v4
  have zx := (x_x1).lt; have zr := (x_r1).lt
  go_wp2_with fail
  refine wp_loop_rounds 5 ?_
  rw [rounds_succ]
  go_wp2_with fail
  refine wp_loop_rounds 6 ?_
  rw [rounds_succ]
  go_wp2_with fail
  rw [rounds_succ]
  go_wp2_with fail
  rw [rounds_succ]
  go_wp2_with fail
  rw [rounds_succ]
  go_wp2_with fail
  rw [rounds_succ]
  go_wp2_with fail
  rw [rounds_succ]
  go_wp2_with fail
  refine wp_loop_rounds 6 ?_
  rw [rounds_succ]
  go_wp2_with fail
  rw [rounds_succ]
  go_wp2_with fail
  rw [rounds_succ]
  go_wp2_with fail
  rw [rounds_succ]
  go_wp2_with fail
  rw [rounds_succ]
  go_wp2_with fail
  rw [rounds_succ]
  go_wp2_with fail
  refine wp_loop_rounds 6 ?_
  rw [rounds_succ]
  go_wp2_with fail
  rw [rounds_succ]
  go_wp2_with fail
  rw [rounds_succ]
  go_wp2_with fail
  rw [rounds_succ]
  go_wp2_with fail
  rw [rounds_succ]
  go_wp2_with fail
  rw [rounds_succ]
  go_upto_region 17 with fail
  clear c0 c1 c2 c3 c4 c5 c6 c7 c8 c9 c10 c11 ka kb kd zx zr
  go_wp2_with fail
  refine (alive10_is _).mono ?_
  rintro e w2 ⟨rfl, hb⟩
  have hB2 : Below w.heap.size w w2 := below_thru hB1 hb
  have hs2 := hB2.size
  have x_r2 : Box w2 (w.heap.size) (V) := Box.below x_r1 hb
  have x_x2 : Box w2 (ga) (XS.map (Value.int .u8)) := Box.below x_x1 hb
  clear hB1 hs1 x_r1 x_x1
  clear hb
  go_wp2_with fail
  go_returns
  exact ⟨rfl, hB2⟩

set_option maxRecDepth 100000 in
set_option maxHeartbeats 25600000 in
theorem ch10_g12 (r : Rep) (hA : r.Ok) {m : Nat} {by0 : Int} (hm : m < 32) (hb0 : by0 ≠ 0) {YS : List Int} (hys : r.bs.set m (bits .xor .u8 (nth r.bs m) by0) = YS) (PC : PReads 11 YS Rep.zero 12) (w : World) : Calls Try.prog 8 #[.agg r.v.toArray, .int .i64 m, .int .u8 by0] w fun e w' => e = .returned (.bool true) ∧ Below w.heap.size w w' := by
  have SV := Lib.hid (size_rep r)
  have WF := fun W => pwr_is r (xs := r.bs) (q := 0) (Or.inl ⟨rfl, hA, rfl⟩) W
  have hl := r.bs_len
  have v2 : r.v[2]? = some (.int .u32 r.a) := rfl
  have v3 : r.v[3]? = some (.int .u32 r.b) := rfl
  have v4 : r.v[4]? = some (.int .u32 r.d) := rfl
  obtain ⟨a0, a1, a2, a3, am1, ap2, am2, ap3, am3, Da⟩ := dig_of r.ha
  obtain ⟨b0, b1, b2, b3, bm1, bp2, bm2, bp3, bm3, Db⟩ := dig_of r.hb
  obtain ⟨d0, d1, d2, d3, dm1, dp2, dm2, dp3, dm3, Dd⟩ := dig_of r.hd
  have x0 := lev_at r Da.b Db.b Dd.b 0 _ rfl
  have x1 := lev_at r Da.b Db.b Dd.b 1 _ rfl
  have x2 := lev_at r Da.b Db.b Dd.b 2 _ rfl
  have x3 := lev_at r Da.b Db.b Dd.b 3 _ rfl
  have x4 := lev_at r Da.b Db.b Dd.b 4 _ rfl
  have x5 := lev_at r Da.b Db.b Dd.b 5 _ rfl
  have x6 := lev_at r Da.b Db.b Dd.b 6 _ rfl
  have x7 := lev_at r Da.b Db.b Dd.b 7 _ rfl
  have x8 := lev_at r Da.b Db.b Dd.b 8 _ rfl
  have x9 := lev_at r Da.b Db.b Dd.b 9 _ rfl
  have x10 := lev_at r Da.b Db.b Dd.b 10 _ rfl
  have x11 := lev_at r Da.b Db.b Dd.b 11 _ rfl
  have wa0 := Da.w0; have wa1 := Da.w1; have wa2 := Da.w2; have wa3 := Da.w3
  have ea1 := Da.e1; have ea2 := Da.e2; have ea3 := Da.e3; have ea4 := Da.e4; have ea5 := Da.e5; have ea6 := Da.e6
  have wb0 := Db.w0; have wb1 := Db.w1; have wb2 := Db.w2; have wb3 := Db.w3
  have eb1 := Db.e1; have eb2 := Db.e2; have eb3 := Db.e3; have eb4 := Db.e4; have eb5 := Db.e5; have eb6 := Db.e6
  have wd0 := Dd.w0; have wd1 := Dd.w1; have wd2 := Dd.w2; have wd3 := Dd.w3
  have ed1 := Dd.e1; have ed2 := Dd.e2; have ed3 := Dd.e3; have ed4 := Dd.e4; have ed5 := Dd.e5; have ed6 := Dd.e6
  obtain ⟨za, hza⟩ : ∃ z, r.a = z := ⟨_, rfl⟩; rw [hza] at ea6 v2
  obtain ⟨zb, hzb⟩ : ∃ z, r.b = z := ⟨_, rfl⟩; rw [hzb] at eb6 v3
  obtain ⟨zd, hzd⟩ : ∃ z, r.d = z := ⟨_, rfl⟩; rw [hzd] at ed6 v4
  have xm : (r.bs.map (Value.int .u8))[m]? = some (.int .u8 (nth r.bs m)) := nth_at' m (by omega)
  obtain ⟨y, hy⟩ : ∃ y, nth r.bs m = y := ⟨_, rfl⟩
  rw [hy] at xm hys
  obtain ⟨z, hz⟩ : ∃ z, bits .xor .u8 y by0 = z := ⟨_, rfl⟩
  rw [hz] at hys
  have EY : Hid (YS.map (Value.int .u8) = (r.bs.map (Value.int .u8)).set m (.int .u8 z)) := Lib.hid (by rw [← hys, List.map_set])
  have LY : Hid (YS.length = 32) := Lib.hid (by rw [← hys, List.length_set, hl])
  have mi : (m : Int) < 32 := by omega
  have mi0 : (0 : Int) ≤ (m : Int) := by omega
  have d1 : decide ((m : Int) < 0) = false := decide_eq_false (by omega); have d2 : decide (32 ≤ (m : Int)) = false := decide_eq_false (by omega); have d3 : (by0 == 0) = false := by simpa using hb0
  unfold PReads at PC
  have SG := Lib.hid (size_rep Rep.zero); have OG := Lib.hid (one_rep Rep.zero); have LG0 := len_rep Rep.zero Rep.zero
  obtain ⟨VG, hVG⟩ : ∃ V, Rep.zero.v = V := ⟨_, rfl⟩
  have LG : Hid (Rep.zero.v.length = VG.length) := Lib.hid (by rw [hVG])
  rw [hVG] at PC SG OG
  clear LG0 hVG hy hys hb0 hm
  obtain ⟨XS, hXS⟩ : ∃ X, r.bs = X := ⟨_, rfl⟩
  rw [hXS] at WF x0 x1 x2 x3 x4 x5 x6 x7 x8 x9 x10 x11 hl xm EY
  have LX := Lib.hid hl
  obtain ⟨V, hV⟩ : ∃ V, r.v = V := ⟨_, rfl⟩
  rw [hV] at SV v2 v3 v4 WF ⊢
  clear hXS hV hA hl hza hzb hzd Da Db Dd
  go_enter Try.func8, Try.ntmps8
  go_upto_region 1 with fail
  refine F_gen (F := fun W => Code.wp _ _ _ _ W) (J := fun W => Box W (w.heap.size) (V) ∧ Below w.heap.size w W) (And.intro (Box.newc rfl rfl) (by go_grown)) ?_
  intro w0 ⟨e_r, hB0⟩
  have hs0 := hB0.size
  have x_r0 := e_r; clear e_r
  have zf := (x_r0).lt
  go_wp2_with (refine wpList_load_box9 rfl _ _ rfl x_r0 rfl Try.underlying26 rfl SV.out ?_)
  refine (WF _).mono ?_
  rintro e w1 ⟨va, rfl, hoa, hb⟩
  clear WF
  have hB1 : Below w.heap.size w w1 := below_thru hB0 hb
  have hs1 := hB1.size
  have x_r1 : Box w1 (w.heap.size) (V) := Box.below x_r0 hb
  clear hB0 hs0 x_r0
  clear hb
  obtain ⟨ga, ca, rfl, hga, lo, _, hbx⟩ := own_box hoa (by rw [LX.out]; decide)
  rw [LX.out] at lo ⊢
  have low_x : w.heap.size < ga := by omega
  clear zf hga hoa
  have x_x1 : Box w1 (ga) (XS.map (Value.int .u8)) := hbx
  clear hbx
  have c0 := (x_x1).c 8 _ x0
  have c1 := (x_x1).c 9 _ x1
  have c2 := (x_x1).c 10 _ x2
  have c3 := (x_x1).c 11 _ x3
  have c4 := (x_x1).c 12 _ x4
  have c5 := (x_x1).c 13 _ x5
  have c6 := (x_x1).c 14 _ x6
  have c7 := (x_x1).c 15 _ x7
  have c8 := (x_x1).c 16 _ x8
  have c9 := (x_x1).c 17 _ x9
  have c10 := (x_x1).c 18 _ x10
  have c11 := (x_x1).c 19 _ x11
  have ka := (x_r1).c 2 _ v2
  have kb := (x_r1).c 3 _ v3
  have kd := (x_r1).c 4 _ v4
  have zx := (x_x1).lt; have zr := (x_r1).lt
  go_wp2_with fail
  refine wp_loop_rounds 5 ?_
  rw [rounds_succ]
  go_wp2_with fail
  refine wp_loop_rounds 6 ?_
  rw [rounds_succ]
  go_wp2_with fail
  rw [rounds_succ]
  go_wp2_with fail
  rw [rounds_succ]
  go_wp2_with fail
  rw [rounds_succ]
  go_wp2_with fail
  rw [rounds_succ]
  go_wp2_with fail
  rw [rounds_succ]
  go_wp2_with fail
  refine wp_loop_rounds 6 ?_
  rw [rounds_succ]
  go_wp2_with fail
  rw [rounds_succ]
  go_wp2_with fail
  rw [rounds_succ]
  go_wp2_with fail
  rw [rounds_succ]
  go_wp2_with fail
  rw [rounds_succ]
  go_wp2_with fail
  rw [rounds_succ]
  go_wp2_with fail
  refine wp_loop_rounds 6 ?_
  rw [rounds_succ]
  go_wp2_with fail
  rw [rounds_succ]
  go_wp2_with fail
  rw [rounds_succ]
  go_wp2_with fail
  rw [rounds_succ]
  go_wp2_with fail
  rw [rounds_succ]
  go_wp2_with fail
  rw [rounds_succ]
  go_upto_region 18 with fail
  clear c0 c1 c2 c3 c4 c5 c6 c7 c8 c9 c10 c11 ka kb kd zx zr
  have cm := (x_x1).c m _ xm; have zm := (x_x1).lt
  go_upto_region 19 with (refine wpList_store_cell (k := m) (ws := YS.map (Value.int .u8)) (v := .int .u8 z) rfl _ _ _ rfl x_x1 rfl rfl rfl rfl size_u8n (by rw [List.length_map, LX.out]; omega) EY.out ?_; intro W5 hW5)
  have x_x2 := hW5.box; have x_r2 : Box W5 (w.heap.size) V := hW5.past _ _ (by omega) x_r1; have hB2 := hW5.below _ _ (by omega) hB1; have hs2 := hB2.size
  clear hW5 cm zm x_x1 x_r1 hB1 hs1
  go_wp2_with fail
  refine (PC _ _ (IsL.range 32 ca LY.out x_x2.range (by omega) (by omega))).mono ?_
  rintro e w3 ⟨rfl, hb⟩
  clear PC
  have hB3 : Below w.heap.size w w3 := below_thru hB2 hb
  have hs3 := hB3.size
  have x_r3 : Box w3 (w.heap.size) (V) := Box.below x_r2 hb
  have x_x3 : Box w3 (ga) (YS.map (Value.int .u8)) := Box.below x_x2 hb
  clear hB2 hs2 x_r2 x_x2
  clear hb
  clear x_x3
  have d_h_r := (x_r3).lt
  have d_h_0 := hs3
  go_upto_region 20 with (refine wpList_store_box (cs := VG) rfl _ _ _ rfl (Box.newc (l := Rep.zero.v) rfl rfl) rfl rfl SG.out LG.out OG.out ?_; intro W3_0 hW3_0)
  have hN : Below w3.heap.size w3 W3_0 := (hW3_0.below _ _ (by omega) ((Below.refl _ w3).alloc (Nat.le_refl _) _))
  have x_h4 : Box W3_0 (w3.heap.size) (VG) := hW3_0.box
  have hB4 : Below w.heap.size w W3_0 := below_thru hB3 hN
  have hs4 := hB4.size
  have x_r4 : Box W3_0 (w.heap.size) (V) := Box.below x_r3 hN
  clear hB3 hs3 x_r3
  clear hN hW3_0
  go_wp2_with (first
    | (refine wpList_load_box9 rfl _ _ rfl x_h4 rfl Try.underlying26 rfl SG.out ?_)
    | (refine wpList_load_box9 rfl _ _ rfl x_r4 rfl Try.underlying26 rfl SV.out ?_))
  refine (alive10_is _).mono ?_
  rintro e w5 ⟨rfl, hb⟩
  have hB5 : Below w.heap.size w w5 := below_thru hB4 hb
  have hs5 := hB5.size
  have x_r5 : Box w5 (w.heap.size) (V) := Box.below x_r4 hb
  have x_h5 : Box w5 (w3.heap.size) (VG) := Box.below x_h4 hb
  clear hB4 hs4 x_r4 x_h4
  clear hb
  go_wp2_with fail
  go_returns
  exact ⟨rfl, hB5⟩

set_option maxRecDepth 100000 in
set_option maxHeartbeats 25600000 in
theorem ch10_g0 (r : Rep) (hA : r.Ok) {m : Nat} {by0 : Int} (hm : m < 32) (hb0 : by0 ≠ 0) {YS : List Int} (H : Rep) (hne : H ≠ r) (hys : r.bs.set m (bits .xor .u8 (nth r.bs m) by0) = YS) (PC : PReads 11 YS H 0) (w : World) : Calls Try.prog 8 #[.agg r.v.toArray, .int .i64 m, .int .u8 by0] w fun e w' => e = .returned (.bool true) ∧ Below w.heap.size w w' := by
  have SV := Lib.hid (size_rep r)
  have WF := fun W => pwr_is r (xs := r.bs) (q := 0) (Or.inl ⟨rfl, hA, rfl⟩) W
  have hl := r.bs_len
  have v2 : r.v[2]? = some (.int .u32 r.a) := rfl
  have v3 : r.v[3]? = some (.int .u32 r.b) := rfl
  have v4 : r.v[4]? = some (.int .u32 r.d) := rfl
  obtain ⟨a0, a1, a2, a3, am1, ap2, am2, ap3, am3, Da⟩ := dig_of r.ha
  obtain ⟨b0, b1, b2, b3, bm1, bp2, bm2, bp3, bm3, Db⟩ := dig_of r.hb
  obtain ⟨d0, d1, d2, d3, dm1, dp2, dm2, dp3, dm3, Dd⟩ := dig_of r.hd
  have x0 := lev_at r Da.b Db.b Dd.b 0 _ rfl
  have x1 := lev_at r Da.b Db.b Dd.b 1 _ rfl
  have x2 := lev_at r Da.b Db.b Dd.b 2 _ rfl
  have x3 := lev_at r Da.b Db.b Dd.b 3 _ rfl
  have x4 := lev_at r Da.b Db.b Dd.b 4 _ rfl
  have x5 := lev_at r Da.b Db.b Dd.b 5 _ rfl
  have x6 := lev_at r Da.b Db.b Dd.b 6 _ rfl
  have x7 := lev_at r Da.b Db.b Dd.b 7 _ rfl
  have x8 := lev_at r Da.b Db.b Dd.b 8 _ rfl
  have x9 := lev_at r Da.b Db.b Dd.b 9 _ rfl
  have x10 := lev_at r Da.b Db.b Dd.b 10 _ rfl
  have x11 := lev_at r Da.b Db.b Dd.b 11 _ rfl
  have wa0 := Da.w0; have wa1 := Da.w1; have wa2 := Da.w2; have wa3 := Da.w3
  have ea1 := Da.e1; have ea2 := Da.e2; have ea3 := Da.e3; have ea4 := Da.e4; have ea5 := Da.e5; have ea6 := Da.e6
  have wb0 := Db.w0; have wb1 := Db.w1; have wb2 := Db.w2; have wb3 := Db.w3
  have eb1 := Db.e1; have eb2 := Db.e2; have eb3 := Db.e3; have eb4 := Db.e4; have eb5 := Db.e5; have eb6 := Db.e6
  have wd0 := Dd.w0; have wd1 := Dd.w1; have wd2 := Dd.w2; have wd3 := Dd.w3
  have ed1 := Dd.e1; have ed2 := Dd.e2; have ed3 := Dd.e3; have ed4 := Dd.e4; have ed5 := Dd.e5; have ed6 := Dd.e6
  obtain ⟨za, hza⟩ : ∃ z, r.a = z := ⟨_, rfl⟩; rw [hza] at ea6 v2
  obtain ⟨zb, hzb⟩ : ∃ z, r.b = z := ⟨_, rfl⟩; rw [hzb] at eb6 v3
  obtain ⟨zd, hzd⟩ : ∃ z, r.d = z := ⟨_, rfl⟩; rw [hzd] at ed6 v4
  have xm : (r.bs.map (Value.int .u8))[m]? = some (.int .u8 (nth r.bs m)) := nth_at' m (by omega)
  obtain ⟨y, hy⟩ : ∃ y, nth r.bs m = y := ⟨_, rfl⟩
  rw [hy] at xm hys
  obtain ⟨z, hz⟩ : ∃ z, bits .xor .u8 y by0 = z := ⟨_, rfl⟩
  rw [hz] at hys
  have EY : Hid (YS.map (Value.int .u8) = (r.bs.map (Value.int .u8)).set m (.int .u8 z)) := Lib.hid (by rw [← hys, List.map_set])
  have LY : Hid (YS.length = 32) := Lib.hid (by rw [← hys, List.length_set, hl])
  have mi : (m : Int) < 32 := by omega
  have mi0 : (0 : Int) ≤ (m : Int) := by omega
  have d1 : decide ((m : Int) < 0) = false := decide_eq_false (by omega); have d2 : decide (32 ≤ (m : Int)) = false := decide_eq_false (by omega); have d3 : (by0 == 0) = false := by simpa using hb0
  unfold PReads at PC
  have SG := Lib.hid (size_rep H); have OG := Lib.hid (one_rep H); have LG0 := len_rep Rep.zero H
  have EN := fun W => eqp_f hne W
  obtain ⟨VG, hVG⟩ : ∃ V, H.v = V := ⟨_, rfl⟩
  rw [hVG] at PC SG OG LG0 EN
  have LG := Lib.hid LG0
  clear LG0 hVG hy hys hb0 hm hne
  obtain ⟨XS, hXS⟩ : ∃ X, r.bs = X := ⟨_, rfl⟩
  rw [hXS] at WF x0 x1 x2 x3 x4 x5 x6 x7 x8 x9 x10 x11 hl xm EY
  have LX := Lib.hid hl
  obtain ⟨V, hV⟩ : ∃ V, r.v = V := ⟨_, rfl⟩
  rw [hV] at SV v2 v3 v4 WF EN ⊢
  clear hXS hV hA hl hza hzb hzd Da Db Dd
  go_enter Try.func8, Try.ntmps8
  go_upto_region 1 with fail
  refine F_gen (F := fun W => Code.wp _ _ _ _ W) (J := fun W => Box W (w.heap.size) (V) ∧ Below w.heap.size w W) (And.intro (Box.newc rfl rfl) (by go_grown)) ?_
  intro w0 ⟨e_r, hB0⟩
  have hs0 := hB0.size
  have x_r0 := e_r; clear e_r
  have zf := (x_r0).lt
  go_wp2_with (refine wpList_load_box9 rfl _ _ rfl x_r0 rfl Try.underlying26 rfl SV.out ?_)
  refine (WF _).mono ?_
  rintro e w1 ⟨va, rfl, hoa, hb⟩
  clear WF
  have hB1 : Below w.heap.size w w1 := below_thru hB0 hb
  have hs1 := hB1.size
  have x_r1 : Box w1 (w.heap.size) (V) := Box.below x_r0 hb
  clear hB0 hs0 x_r0
  clear hb
  obtain ⟨ga, ca, rfl, hga, lo, _, hbx⟩ := own_box hoa (by rw [LX.out]; decide)
  rw [LX.out] at lo ⊢
  have low_x : w.heap.size < ga := by omega
  clear zf hga hoa
  have x_x1 : Box w1 (ga) (XS.map (Value.int .u8)) := hbx
  clear hbx
  have c0 := (x_x1).c 8 _ x0
  have c1 := (x_x1).c 9 _ x1
  have c2 := (x_x1).c 10 _ x2
  have c3 := (x_x1).c 11 _ x3
  have c4 := (x_x1).c 12 _ x4
  have c5 := (x_x1).c 13 _ x5
  have c6 := (x_x1).c 14 _ x6
  have c7 := (x_x1).c 15 _ x7
  have c8 := (x_x1).c 16 _ x8
  have c9 := (x_x1).c 17 _ x9
  have c10 := (x_x1).c 18 _ x10
  have c11 := (x_x1).c 19 _ x11
  have ka := (x_r1).c 2 _ v2
  have kb := (x_r1).c 3 _ v3
  have kd := (x_r1).c 4 _ v4
  have zx := (x_x1).lt; have zr := (x_r1).lt
  go_wp2_with fail
  refine wp_loop_rounds 5 ?_
  rw [rounds_succ]
  go_wp2_with fail
  refine wp_loop_rounds 6 ?_
  rw [rounds_succ]
  go_wp2_with fail
  rw [rounds_succ]
  go_wp2_with fail
  rw [rounds_succ]
  go_wp2_with fail
  rw [rounds_succ]
  go_wp2_with fail
  rw [rounds_succ]
  go_wp2_with fail
  rw [rounds_succ]
  go_wp2_with fail
  refine wp_loop_rounds 6 ?_
  rw [rounds_succ]
  go_wp2_with fail
  rw [rounds_succ]
  go_wp2_with fail
  rw [rounds_succ]
  go_wp2_with fail
  rw [rounds_succ]
  go_wp2_with fail
  rw [rounds_succ]
  go_wp2_with fail
  rw [rounds_succ]
  go_wp2_with fail
  refine wp_loop_rounds 6 ?_
  rw [rounds_succ]
  go_wp2_with fail
  rw [rounds_succ]
  go_wp2_with fail
  rw [rounds_succ]
  go_wp2_with fail
  rw [rounds_succ]
  go_wp2_with fail
  rw [rounds_succ]
  go_wp2_with fail
  rw [rounds_succ]
  go_upto_region 18 with fail
  clear c0 c1 c2 c3 c4 c5 c6 c7 c8 c9 c10 c11 ka kb kd zx zr
  have cm := (x_x1).c m _ xm; have zm := (x_x1).lt
  go_upto_region 19 with (refine wpList_store_cell (k := m) (ws := YS.map (Value.int .u8)) (v := .int .u8 z) rfl _ _ _ rfl x_x1 rfl rfl rfl rfl size_u8n (by rw [List.length_map, LX.out]; omega) EY.out ?_; intro W5 hW5)
  have x_x2 := hW5.box; have x_r2 : Box W5 (w.heap.size) V := hW5.past _ _ (by omega) x_r1; have hB2 := hW5.below _ _ (by omega) hB1; have hs2 := hB2.size
  clear hW5 cm zm x_x1 x_r1 hB1 hs1
  go_wp2_with fail
  refine (PC _ _ (IsL.range 32 ca LY.out x_x2.range (by omega) (by omega))).mono ?_
  rintro e w3 ⟨rfl, hb⟩
  clear PC
  have hB3 : Below w.heap.size w w3 := below_thru hB2 hb
  have hs3 := hB3.size
  have x_r3 : Box w3 (w.heap.size) (V) := Box.below x_r2 hb
  have x_x3 : Box w3 (ga) (YS.map (Value.int .u8)) := Box.below x_x2 hb
  clear hB2 hs2 x_r2 x_x2
  clear hb
  clear x_x3
  have d_h_r := (x_r3).lt
  have d_h_0 := hs3
  go_upto_region 20 with (refine wpList_store_box (cs := VG) rfl _ _ _ rfl (Box.newc (l := Rep.zero.v) rfl rfl) rfl rfl SG.out LG.out OG.out ?_; intro W3_0 hW3_0)
  have hN : Below w3.heap.size w3 W3_0 := (hW3_0.below _ _ (by omega) ((Below.refl _ w3).alloc (Nat.le_refl _) _))
  have x_h4 : Box W3_0 (w3.heap.size) (VG) := hW3_0.box
  have hB4 : Below w.heap.size w W3_0 := below_thru hB3 hN
  have hs4 := hB4.size
  have x_r4 : Box W3_0 (w.heap.size) (V) := Box.below x_r3 hN
  clear hB3 hs3 x_r3
  clear hN hW3_0
  go_wp2_with (first
    | (refine wpList_load_box9 rfl _ _ rfl x_h4 rfl Try.underlying26 rfl SG.out ?_)
    | (refine wpList_load_box9 rfl _ _ rfl x_r4 rfl Try.underlying26 rfl SV.out ?_))
  refine (alive10_is _).mono ?_
  rintro e w5 ⟨rfl, hb⟩
  have hB5 : Below w.heap.size w w5 := below_thru hB4 hb
  have hs5 := hB5.size
  have x_r5 : Box w5 (w.heap.size) (V) := Box.below x_r4 hb
  have x_h5 : Box w5 (w3.heap.size) (VG) := Box.below x_h4 hb
  clear hB4 hs4 x_r4 x_h4
  clear hb
  go_wp2_with fail
  go_returns
  exact ⟨rfl, hB5⟩

set_option maxRecDepth 100000 in
set_option maxHeartbeats 1600000 in
theorem ch10_no (r : Rep) (hA : ¬ r.Ok) {at0 by0 : Int} (w : World) : Calls Try.prog 8 #[.agg r.v.toArray, .int .i64 at0, .int .u8 by0] w fun e w' => e = .returned (.bool true) ∧ Below w.heap.size w w' := by
  have SV := Lib.hid (size_rep r)
  have WF := fun W => pwr_is r (xs := []) (q := 8) (Or.inr ⟨rfl, hA, rfl⟩) W
  obtain ⟨V, hV⟩ : ∃ V, r.v = V := ⟨_, rfl⟩
  rw [hV] at SV WF ⊢
  clear hV hA
  go_enter Try.func8, Try.ntmps8
  go_upto_region 1 with fail
  refine F_gen (F := fun W => Code.wp _ _ _ _ W) (J := fun W => Box W (w.heap.size) (V) ∧ Below w.heap.size w W) (And.intro (Box.newc rfl rfl) (by go_grown)) ?_
  intro w0 ⟨e_r, hB0⟩
  have hs0 := hB0.size
  have x_r0 := e_r; clear e_r
  go_wp2_with (refine wpList_load_box9 rfl _ _ rfl x_r0 rfl Try.underlying26 rfl SV.out ?_)
  refine (WF _).mono ?_
  rintro e w1 ⟨va, rfl, hoa, hb⟩
  clear WF hoa
  have hB1 : Below w.heap.size w w1 := below_thru hB0 hb
  have hs1 := hB1.size
  have x_r1 : Box w1 (w.heap.size) (V) := Box.below x_r0 hb
  clear hB0 hs0 x_r0
  clear hb
  go_wp2_with fail
  refine (alive10_is _).mono ?_
  rintro e w2 ⟨rfl, hb⟩
  have hB2 : Below w.heap.size w w2 := below_thru hB1 hb
  have hs2 := hB2.size
  have x_r2 : Box w2 (w.heap.size) (V) := Box.below x_r1 hb
  clear hB1 hs1 x_r1
  clear hb
  go_wp2_with fail
  go_returns
  exact ⟨rfl, hB2⟩

theorem ch10_go {r : Rep} {m : Nat} {by0 : Int} (hm : m < r.bs.length) (hby : 0 ≤ by0 ∧ by0 ≤ 255) (hb0 : by0 ≠ 0) : ∃ (YS : List Int) (H : Rep) (q : Int), r.bs.set m (bits .xor .u8 (nth r.bs m) by0) = YS ∧ PReads 11 YS H q ∧ ((q = 12 ∧ H = Rep.zero) ∨ (q = 0 ∧ H ≠ r)) := by
  have hyb := r.bs_byts (nth r.bs m) (nth_mem hm)
  obtain ⟨n1, n2, n3⟩ := xor_ne10 hyb hby hb0
  have hY : Byts (r.bs.set m (bits .xor .u8 (nth r.bs m) by0)) := fun x hx => by
    rcases List.mem_or_eq_of_mem_set hx with q | q
    · exact r.bs_byts x q
    · rw [q]; exact ⟨n2, n3⟩
  obtain ⟨H, q, hp, PC⟩ := pparse_is _ hY
  refine ⟨_, H, q, rfl, PC, ?_⟩
  rcases hp with ⟨h1, h2, h3⟩ | ⟨h1, h2, _⟩
  · refine Or.inr ⟨h1, fun e => ?_⟩
    rw [e] at h3
    exact set_ne10 hm n1 h3.symm
  · exact Or.inl ⟨h1, h2⟩
theorem changed10_is (r : Rep) (at0 by0 : Int) (w : World) (hby : 0 ≤ by0 ∧ by0 ≤ 255) : Calls Try.prog 8 #[.agg r.v.toArray, .int .i64 at0, .int .u8 by0] w fun e w' => e = .returned (.bool true) ∧ Below w.heap.size w w' := by
  by_cases hA : r.Ok
  · by_cases h1 : at0 < 0
    · exact ch10_r1 r hA (decide_eq_true h1) w
    by_cases h2 : 32 ≤ at0
    · exact ch10_r2 r hA (decide_eq_false h1) (decide_eq_true h2) w
    by_cases h3 : by0 = 0
    · rw [h3]
      exact ch10_r3 r hA (decide_eq_false h1) (decide_eq_false h2) w
    obtain ⟨m, rfl⟩ : ∃ m : Nat, at0 = (m : Int) := ⟨at0.toNat, by omega⟩
    obtain ⟨YS, H, q, hys, PC, hq⟩ := ch10_go (r := r) (m := m) (by rw [r.bs_len]; omega) hby h3
    rcases hq with ⟨rfl, rfl⟩ | ⟨rfl, hne⟩
    · exact ch10_g12 r hA (by omega) h3 hys PC w
    · exact ch10_g0 r hA (by omega) h3 H hne hys PC w
  · exact ch10_no r hA w

end Go.Proofs.Ytipkgflonioacaa
