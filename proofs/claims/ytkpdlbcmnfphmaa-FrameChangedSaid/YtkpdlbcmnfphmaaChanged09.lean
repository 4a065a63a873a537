/-
  FrameChanged, walked.
-/
import Derived.Test.YtkpdlbcmnfphmaaAlive09
import Derived.Laws.BitsAllLaws
namespace Go.Proofs.Ytkpdlbcmnfphmaa
open Go.RowKit

theorem xor_ne9 {x y : Int} (hx : 0 ≤ x ∧ x ≤ 255) (hy : 0 ≤ y ∧ y ≤ 255) (h : y ≠ 0) : bits .xor .u8 x y ≠ x ∧ 0 ≤ bits .xor .u8 x y ∧ bits .xor .u8 x y ≤ 255 := by
  rw [u8_xor x y hx.1 (by omega) hy.1 (by omega)]
  have hlt : x.toNat ^^^ y.toNat < 2 ^ 8 := Nat.xor_lt_two_pow (by omega) (by omega)
  refine ⟨fun q => ?_, by omega, by omega⟩
  have h4 : x.toNat ^^^ y.toNat = x.toNat := by omega
  have h5 : x.toNat ^^^ (x.toNat ^^^ y.toNat) = x.toNat ^^^ x.toNat := by rw [h4]
  rw [← Nat.xor_assoc, Nat.xor_self, Nat.zero_xor] at h5
  omega
theorem set_ne9 {xs : List Int} {k : Nat} {u : Int} (hk : k < xs.length) (hu : u ≠ nth xs k) : xs.set k u ≠ xs := fun h => hu (by
  have h1 : (xs.set k u)[k]? = some u := by rw [List.getElem?_set_self hk]
  rw [h] at h1
  unfold nth
  simp [h1])
theorem be4_small {t : Int} (h : 0 ≤ t ∧ t < 16) : be 4 t = [0, 0, 0, t] := by
  have e1 : t / 256 = 0 := by omega
  have e2 : t % 256 = t := by omega
  unfold be
  rw [e1, e2]
  rfl
theorem te_req (r : Req) (h : r.k.t < 16) : nth (1 :: r.bs) 1 = 0 ∧ nth (1 :: r.bs) 2 = 0 ∧ nth (1 :: r.bs) 3 = 0 ∧ nth (1 :: r.bs) 4 = r.k.t := by
  unfold Req.bs Nums.msg
  rw [be4_small ⟨r.k.ht.1, h⟩]
  exact ⟨rfl, rfl, rfl, rfl⟩
theorem te_cmd (c : Cmd) (h : c.t < 16) : nth (c.msg ++ c.g) 2 = 0 ∧ nth (c.msg ++ c.g) 3 = 0 ∧ nth (c.msg ++ c.g) 4 = 0 ∧ nth (c.msg ++ c.g) 5 = c.t := by
  rw [msg_two]
  unfold wsC Cmd.ns
  rw [beL, beL, be4_small ⟨c.ht.1, h⟩]
  exact ⟨rfl, rfl, rfl, rfl⟩
/-- A valid frame's bytes as this law looks at them. -/
structure Seen (f : Frm) (K n : Nat) (T : Int) : Prop where
  k : f.kd = K
  l : f.bs.length = n
  a : nth f.bs K = 0
  b : nth f.bs (K + 1) = 0
  c : nth f.bs (K + 2) = 0
  d : nth f.bs (K + 3) = T
  te : f.te = T
  t : 0 ≤ T ∧ T < 16
theorem seen_of {f : Frm} (h : f.Ok) : (∃ T, Seen f 1 59 T) ∨ (∃ T, Seen f 2 88 T) := by
  rcases Frm.ok_two h with ⟨_, ht, k, e, l⟩ | ⟨_, ho, k, e, l⟩
  · obtain ⟨a, b, c, d⟩ := te_req f.r ht
    exact Or.inl ⟨f.r.k.t, k, l, by rw [e]; exact a, by rw [e]; exact b, by rw [e]; exact c, by rw [e]; exact d, by unfold Frm.te; rw [if_neg (by omega)], f.r.k.ht.1, ht⟩
  · obtain ⟨a, b, c, d⟩ := te_cmd f.c ho.1
    exact Or.inr ⟨f.c.t, k, l, by rw [e]; exact a, by rw [e]; exact b, by rw [e]; exact c, by rw [e]; exact d, by unfold Frm.te; rw [if_pos k], f.c.ht.1, ho.1⟩

set_option maxRecDepth 100000 in
set_option maxHeartbeats 12800000 in
theorem ch9_r1_1 (f : Frm) (hA : f.Ok) {T : Int} (hs : Seen f 1 59 T) {at0 by0 : Int} (d1 : decide (at0 < 0) = true) (w : World) : Calls Try.prog 8 #[.agg (mcell f).toArray, .int .i64 at0, .int .u8 by0] w fun e w' => e = .returned (.bool true) ∧ Below w.heap.size w w' := by
  have SV := Lib.hid (size_frm f)
  have v0 : (mcell f)[0]? = some (.int .u8 1) := by have h0 := hs.k; rw [← (show f.kd = 1 from h0)]; rfl
  have WF := fun W => wr_is f (xs := f.bs) (q := 0) (Or.inl ⟨rfl, hA, rfl⟩) W
  have TF := fun W => ten_is f (n := T) (q := 0) (Or.inl ⟨rfl, hA, hs.te.symm⟩) W
  have hl := hs.l; have ht := hs.t; have dT : decide (16 ≤ T) = false := decide_eq_false (by omega); have wT : IntKind.u32.wrap T = T := by rw [IntKind.wrap_u32]; omega
  have x0 : (f.bs.map (Value.int .u8))[1]? = some (.int .u8 0) := by rw [nth_at' 1 (by omega)]; rw [show nth f.bs 1 = 0 from hs.a]
  have x1 : (f.bs.map (Value.int .u8))[2]? = some (.int .u8 0) := by rw [nth_at' 2 (by omega)]; rw [show nth f.bs 2 = 0 from hs.b]
  have x2 : (f.bs.map (Value.int .u8))[3]? = some (.int .u8 0) := by rw [nth_at' 3 (by omega)]; rw [show nth f.bs 3 = 0 from hs.c]
  have x3 : (f.bs.map (Value.int .u8))[4]? = some (.int .u8 T) := by rw [nth_at' 4 (by omega)]; rw [show nth f.bs 4 = T from hs.d]
  obtain ⟨XS, hXS⟩ : ∃ X, f.bs = X := ⟨_, rfl⟩
  rw [hXS] at WF x0 x1 x2 x3 hl
  have LX := Lib.hid hl
  obtain ⟨V, hV⟩ : ∃ V, mcell f = V := ⟨_, rfl⟩
  rw [hV] at SV v0 WF TF ⊢
  clear hXS hV hA hs hl ht
  go_enter Try.func8, Try.ntmps8
  go_upto_region 1 with fail
  refine F_gen (F := fun W => Code.wp _ _ _ _ W) (J := fun W => Box W (w.heap.size) (V) ∧ Below w.heap.size w W) (And.intro (Box.newc rfl rfl) (by go_grown)) ?_
  intro w0 ⟨e_f, hB0⟩
  have hs0 := hB0.size
  have x_f0 := e_f; clear e_f
  have zf := (x_f0).lt
  go_wp2_with (refine wpList_load_box9 rfl _ _ rfl x_f0 rfl Try.underlying43 rfl SV.out ?_)
  refine (WF _).mono ?_
  rintro e w1 ⟨va, rfl, hoa, hb⟩
  clear WF
  have hB1 : Below w.heap.size w w1 := below_thru hB0 hb
  have hs1 := hB1.size
  have x_f1 : Box w1 (w.heap.size) (V) := Box.below x_f0 hb
  clear hB0 hs0 x_f0
  clear hb
  obtain ⟨ga, ca, rfl, hga, lo, _, hbx⟩ := own_box hoa (by rw [LX.out]; decide)
  rw [LX.out] at lo ⊢
  have low_x : w.heap.size < ga := by omega
  clear zf hga
  clear hoa
  have x_x1 : Box w1 (ga) (XS.map (Value.int .u8)) := hbx
  clear hbx
  go_wp2_with (refine wpList_load_box9 rfl _ _ rfl x_f1 rfl Try.underlying43 rfl SV.out ?_)
  refine (TF _).mono ?_
  rintro e w2 ⟨rfl, hb⟩
  clear TF
  have hB2 : Below w.heap.size w w2 := below_thru hB1 hb
  have hs2 := hB2.size
  have x_f2 : Box w2 (w.heap.size) (V) := Box.below x_f1 hb
  have x_x2 : Box w2 (ga) (XS.map (Value.int .u8)) := Box.below x_x1 hb
  clear hB1 hs1 x_f1 x_x1
  clear hb
  have ca := (x_f2).c 0 _ v0
  have za := (x_f2).lt
  have cb0 := (x_x2).c 1 _ x0
  have zb0 := (x_x2).lt
  have cb1 := (x_x2).c 2 _ x1
  have zb1 := (x_x2).lt
  have cb2 := (x_x2).c 3 _ x2
  have zb2 := (x_x2).lt
  have cb3 := (x_x2).c 4 _ x3
  have zb3 := (x_x2).lt
  go_upto_region 10 with fail
  clear ca za cb0 zb0 cb1 zb1 cb2 zb2 cb3 zb3
  go_wp2_with fail
  refine (alive9_is _).mono ?_
  rintro e w3 ⟨rfl, hb⟩
  have hB3 : Below w.heap.size w w3 := below_thru hB2 hb
  have hs3 := hB3.size
  have x_f3 : Box w3 (w.heap.size) (V) := Box.below x_f2 hb
  have x_x3 : Box w3 (ga) (XS.map (Value.int .u8)) := Box.below x_x2 hb
  clear hB2 hs2 x_f2 x_x2
  clear hb
  go_wp2_with fail
  go_returns
  exact ⟨rfl, hB3⟩

set_option maxRecDepth 100000 in
set_option maxHeartbeats 12800000 in
theorem ch9_r2_1 (f : Frm) (hA : f.Ok) {T : Int} (hs : Seen f 1 59 T) {at0 by0 : Int} (d1 : decide (at0 < 0) = false) (d2 : decide (59 ≤ at0) = true) (w : World) : Calls Try.prog 8 #[.agg (mcell f).toArray, .int .i64 at0, .int .u8 by0] w fun e w' => e = .returned (.bool true) ∧ Below w.heap.size w w' := by
  have SV := Lib.hid (size_frm f)
  have v0 : (mcell f)[0]? = some (.int .u8 1) := by have h0 := hs.k; rw [← (show f.kd = 1 from h0)]; rfl
  have WF := fun W => wr_is f (xs := f.bs) (q := 0) (Or.inl ⟨rfl, hA, rfl⟩) W
  have TF := fun W => ten_is f (n := T) (q := 0) (Or.inl ⟨rfl, hA, hs.te.symm⟩) W
  have hl := hs.l; have ht := hs.t; have dT : decide (16 ≤ T) = false := decide_eq_false (by omega); have wT : IntKind.u32.wrap T = T := by rw [IntKind.wrap_u32]; omega
  have x0 : (f.bs.map (Value.int .u8))[1]? = some (.int .u8 0) := by rw [nth_at' 1 (by omega)]; rw [show nth f.bs 1 = 0 from hs.a]
  have x1 : (f.bs.map (Value.int .u8))[2]? = some (.int .u8 0) := by rw [nth_at' 2 (by omega)]; rw [show nth f.bs 2 = 0 from hs.b]
  have x2 : (f.bs.map (Value.int .u8))[3]? = some (.int .u8 0) := by rw [nth_at' 3 (by omega)]; rw [show nth f.bs 3 = 0 from hs.c]
  have x3 : (f.bs.map (Value.int .u8))[4]? = some (.int .u8 T) := by rw [nth_at' 4 (by omega)]; rw [show nth f.bs 4 = T from hs.d]
  obtain ⟨XS, hXS⟩ : ∃ X, f.bs = X := ⟨_, rfl⟩
  rw [hXS] at WF x0 x1 x2 x3 hl
  have LX := Lib.hid hl
  obtain ⟨V, hV⟩ : ∃ V, mcell f = V := ⟨_, rfl⟩
  rw [hV] at SV v0 WF TF ⊢
  clear hXS hV hA hs hl ht
  go_enter Try.func8, Try.ntmps8
  go_upto_region 1 with fail
  refine F_gen (F := fun W => Code.wp _ _ _ _ W) (J := fun W => Box W (w.heap.size) (V) ∧ Below w.heap.size w W) (And.intro (Box.newc rfl rfl) (by go_grown)) ?_
  intro w0 ⟨e_f, hB0⟩
  have hs0 := hB0.size
  have x_f0 := e_f; clear e_f
  have zf := (x_f0).lt
  go_wp2_with (refine wpList_load_box9 rfl _ _ rfl x_f0 rfl Try.underlying43 rfl SV.out ?_)
  refine (WF _).mono ?_
  rintro e w1 ⟨va, rfl, hoa, hb⟩
  clear WF
  have hB1 : Below w.heap.size w w1 := below_thru hB0 hb
  have hs1 := hB1.size
  have x_f1 : Box w1 (w.heap.size) (V) := Box.below x_f0 hb
  clear hB0 hs0 x_f0
  clear hb
  obtain ⟨ga, ca, rfl, hga, lo, _, hbx⟩ := own_box hoa (by rw [LX.out]; decide)
  rw [LX.out] at lo ⊢
  have low_x : w.heap.size < ga := by omega
  clear zf hga
  clear hoa
  have x_x1 : Box w1 (ga) (XS.map (Value.int .u8)) := hbx
  clear hbx
  go_wp2_with (refine wpList_load_box9 rfl _ _ rfl x_f1 rfl Try.underlying43 rfl SV.out ?_)
  refine (TF _).mono ?_
  rintro e w2 ⟨rfl, hb⟩
  clear TF
  have hB2 : Below w.heap.size w w2 := below_thru hB1 hb
  have hs2 := hB2.size
  have x_f2 : Box w2 (w.heap.size) (V) := Box.below x_f1 hb
  have x_x2 : Box w2 (ga) (XS.map (Value.int .u8)) := Box.below x_x1 hb
  clear hB1 hs1 x_f1 x_x1
  clear hb
  have ca := (x_f2).c 0 _ v0
  have za := (x_f2).lt
  have cb0 := (x_x2).c 1 _ x0
  have zb0 := (x_x2).lt
  have cb1 := (x_x2).c 2 _ x1
  have zb1 := (x_x2).lt
  have cb2 := (x_x2).c 3 _ x2
  have zb2 := (x_x2).lt
  have cb3 := (x_x2).c 4 _ x3
  have zb3 := (x_x2).lt
  go_upto_region 10 with fail
  clear ca za cb0 zb0 cb1 zb1 cb2 zb2 cb3 zb3
  go_wp2_with fail
  refine (alive9_is _).mono ?_
  rintro e w3 ⟨rfl, hb⟩
  have hB3 : Below w.heap.size w w3 := below_thru hB2 hb
  have hs3 := hB3.size
  have x_f3 : Box w3 (w.heap.size) (V) := Box.below x_f2 hb
  have x_x3 : Box w3 (ga) (XS.map (Value.int .u8)) := Box.below x_x2 hb
  clear hB2 hs2 x_f2 x_x2
  clear hb
  go_wp2_with fail
  go_returns
  exact ⟨rfl, hB3⟩

set_option maxRecDepth 100000 in
set_option maxHeartbeats 12800000 in
theorem ch9_r3_1 (f : Frm) (hA : f.Ok) {T : Int} (hs : Seen f 1 59 T) {at0 : Int} (d1 : decide (at0 < 0) = false) (d2 : decide (59 ≤ at0) = false) (w : World) : Calls Try.prog 8 #[.agg (mcell f).toArray, .int .i64 at0, .int .u8 0] w fun e w' => e = .returned (.bool true) ∧ Below w.heap.size w w' := by
  have SV := Lib.hid (size_frm f)
  have v0 : (mcell f)[0]? = some (.int .u8 1) := by have h0 := hs.k; rw [← (show f.kd = 1 from h0)]; rfl
  have WF := fun W => wr_is f (xs := f.bs) (q := 0) (Or.inl ⟨rfl, hA, rfl⟩) W
  have TF := fun W => ten_is f (n := T) (q := 0) (Or.inl ⟨rfl, hA, hs.te.symm⟩) W
  have hl := hs.l; have ht := hs.t; have dT : decide (16 ≤ T) = false := decide_eq_false (by omega); have wT : IntKind.u32.wrap T = T := by rw [IntKind.wrap_u32]; omega
  have x0 : (f.bs.map (Value.int .u8))[1]? = some (.int .u8 0) := by rw [nth_at' 1 (by omega)]; rw [show nth f.bs 1 = 0 from hs.a]
  have x1 : (f.bs.map (Value.int .u8))[2]? = some (.int .u8 0) := by rw [nth_at' 2 (by omega)]; rw [show nth f.bs 2 = 0 from hs.b]
  have x2 : (f.bs.map (Value.int .u8))[3]? = some (.int .u8 0) := by rw [nth_at' 3 (by omega)]; rw [show nth f.bs 3 = 0 from hs.c]
  have x3 : (f.bs.map (Value.int .u8))[4]? = some (.int .u8 T) := by rw [nth_at' 4 (by omega)]; rw [show nth f.bs 4 = T from hs.d]
  obtain ⟨XS, hXS⟩ : ∃ X, f.bs = X := ⟨_, rfl⟩
  rw [hXS] at WF x0 x1 x2 x3 hl
  have LX := Lib.hid hl
  obtain ⟨V, hV⟩ : ∃ V, mcell f = V := ⟨_, rfl⟩
  rw [hV] at SV v0 WF TF ⊢
  clear hXS hV hA hs hl ht
  go_enter Try.func8, Try.ntmps8
  go_upto_region 1 with fail
  refine F_gen (F := fun W => Code.wp _ _ _ _ W) (J := fun W => Box W (w.heap.size) (V) ∧ Below w.heap.size w W) (And.intro (Box.newc rfl rfl) (by go_grown)) ?_
  intro w0 ⟨e_f, hB0⟩
  have hs0 := hB0.size
  have x_f0 := e_f; clear e_f
  have zf := (x_f0).lt
  go_wp2_with (refine wpList_load_box9 rfl _ _ rfl x_f0 rfl Try.underlying43 rfl SV.out ?_)
  refine (WF _).mono ?_
  rintro e w1 ⟨va, rfl, hoa, hb⟩
  clear WF
  have hB1 : Below w.heap.size w w1 := below_thru hB0 hb
  have hs1 := hB1.size
  have x_f1 : Box w1 (w.heap.size) (V) := Box.below x_f0 hb
  clear hB0 hs0 x_f0
  clear hb
  obtain ⟨ga, ca, rfl, hga, lo, _, hbx⟩ := own_box hoa (by rw [LX.out]; decide)
  rw [LX.out] at lo ⊢
  have low_x : w.heap.size < ga := by omega
  clear zf hga
  clear hoa
  have x_x1 : Box w1 (ga) (XS.map (Value.int .u8)) := hbx
  clear hbx
  go_wp2_with (refine wpList_load_box9 rfl _ _ rfl x_f1 rfl Try.underlying43 rfl SV.out ?_)
  refine (TF _).mono ?_
  rintro e w2 ⟨rfl, hb⟩
  clear TF
  have hB2 : Below w.heap.size w w2 := below_thru hB1 hb
  have hs2 := hB2.size
  have x_f2 : Box w2 (w.heap.size) (V) := Box.below x_f1 hb
  have x_x2 : Box w2 (ga) (XS.map (Value.int .u8)) := Box.below x_x1 hb
  clear hB1 hs1 x_f1 x_x1
  clear hb
  have ca := (x_f2).c 0 _ v0
  have za := (x_f2).lt
  have cb0 := (x_x2).c 1 _ x0
  have zb0 := (x_x2).lt
  have cb1 := (x_x2).c 2 _ x1
  have zb1 := (x_x2).lt
  have cb2 := (x_x2).c 3 _ x2
  have zb2 := (x_x2).lt
  have cb3 := (x_x2).c 4 _ x3
  have zb3 := (x_x2).lt
  go_upto_region 10 with fail
  clear ca za cb0 zb0 cb1 zb1 cb2 zb2 cb3 zb3
  go_wp2_with fail
  refine (alive9_is _).mono ?_
  rintro e w3 ⟨rfl, hb⟩
  have hB3 : Below w.heap.size w w3 := below_thru hB2 hb
  have hs3 := hB3.size
  have x_f3 : Box w3 (w.heap.size) (V) := Box.below x_f2 hb
  have x_x3 : Box w3 (ga) (XS.map (Value.int .u8)) := Box.below x_x2 hb
  clear hB2 hs2 x_f2 x_x2
  clear hb
  go_wp2_with fail
  go_returns
  exact ⟨rfl, hB3⟩

set_option maxRecDepth 100000 in
set_option maxHeartbeats 12800000 in
theorem ch9_g12_1 (f : Frm) (hA : f.Ok) {T : Int} (hs : Seen f 1 59 T) {m : Nat} {by0 : Int} (hm : m < 59) (hby : 0 ≤ by0 ∧ by0 ≤ 255) (hb0 : by0 ≠ 0) {YS : List Int} (hys : f.bs.set m (bits .xor .u8 (nth f.bs m) by0) = YS) (PC : Parses 12 YS Frm.zero 12) (w : World) : Calls Try.prog 8 #[.agg (mcell f).toArray, .int .i64 m, .int .u8 by0] w fun e w' => e = .returned (.bool true) ∧ Below w.heap.size w w' := by
  have _ := hby
  have SV := Lib.hid (size_frm f)
  have v0 : (mcell f)[0]? = some (.int .u8 1) := by have h0 := hs.k; rw [← (show f.kd = 1 from h0)]; rfl
  have WF := fun W => wr_is f (xs := f.bs) (q := 0) (Or.inl ⟨rfl, hA, rfl⟩) W
  have TF := fun W => ten_is f (n := T) (q := 0) (Or.inl ⟨rfl, hA, hs.te.symm⟩) W
  have hl := hs.l; have ht := hs.t; have dT : decide (16 ≤ T) = false := decide_eq_false (by omega); have wT : IntKind.u32.wrap T = T := by rw [IntKind.wrap_u32]; omega
  have x0 : (f.bs.map (Value.int .u8))[1]? = some (.int .u8 0) := by rw [nth_at' 1 (by omega)]; rw [show nth f.bs 1 = 0 from hs.a]
  have x1 : (f.bs.map (Value.int .u8))[2]? = some (.int .u8 0) := by rw [nth_at' 2 (by omega)]; rw [show nth f.bs 2 = 0 from hs.b]
  have x2 : (f.bs.map (Value.int .u8))[3]? = some (.int .u8 0) := by rw [nth_at' 3 (by omega)]; rw [show nth f.bs 3 = 0 from hs.c]
  have x3 : (f.bs.map (Value.int .u8))[4]? = some (.int .u8 T) := by rw [nth_at' 4 (by omega)]; rw [show nth f.bs 4 = T from hs.d]
  have hyb := f.bs_byts (nth f.bs m) (nth_mem (by omega))
  have xm : (f.bs.map (Value.int .u8))[m]? = some (.int .u8 (nth f.bs m)) := nth_at' m (by omega)
  obtain ⟨y, hy⟩ : ∃ y, nth f.bs m = y := ⟨_, rfl⟩
  rw [hy] at xm hyb hys
  obtain ⟨z, hz⟩ : ∃ z, bits .xor .u8 y by0 = z := ⟨_, rfl⟩
  rw [hz] at hys
  have EY : Hid (YS.map (Value.int .u8) = (f.bs.map (Value.int .u8)).set m (.int .u8 z)) := Lib.hid (by rw [← hys, List.map_set])
  have LY : Hid (YS.length = 59) := Lib.hid (by rw [← hys, List.length_set, hl])
  have mi : (m : Int) < 59 := by omega
  have mi0 : (0 : Int) ≤ (m : Int) := by omega
  have d1 : decide ((m : Int) < 0) = false := decide_eq_false (by omega); have d2 : decide (59 ≤ (m : Int)) = false := decide_eq_false (by omega); have d3 : (by0 == 0) = false := by simpa using hb0
  unfold Parses at PC
  have SG := Lib.hid (size_frm Frm.zero); have OG := Lib.hid (one_frm Frm.zero); have LG0 := len_frm Frm.zero Frm.zero
  obtain ⟨VG, hVG⟩ : ∃ V, mcell Frm.zero = V := ⟨_, rfl⟩
  have LG : Hid ((mcell Frm.zero).length = VG.length) := Lib.hid (by rw [hVG])
  rw [hVG] at PC SG OG
  clear LG0 hVG hy hys hyb hby hb0 hm
  obtain ⟨XS, hXS⟩ : ∃ X, f.bs = X := ⟨_, rfl⟩
  rw [hXS] at WF x0 x1 x2 x3 hl xm EY
  have LX := Lib.hid hl
  obtain ⟨V, hV⟩ : ∃ V, mcell f = V := ⟨_, rfl⟩
  rw [hV] at SV v0 WF TF ⊢
  clear hXS hV hA hs hl ht
  go_enter Try.func8, Try.ntmps8
  go_upto_region 1 with fail
  refine F_gen (F := fun W => Code.wp _ _ _ _ W) (J := fun W => Box W (w.heap.size) (V) ∧ Below w.heap.size w W) (And.intro (Box.newc rfl rfl) (by go_grown)) ?_
  intro w0 ⟨e_f, hB0⟩
  have hs0 := hB0.size
  have x_f0 := e_f; clear e_f
  have zf := (x_f0).lt
  go_wp2_with (refine wpList_load_box9 rfl _ _ rfl x_f0 rfl Try.underlying43 rfl SV.out ?_)
  refine (WF _).mono ?_
  rintro e w1 ⟨va, rfl, hoa, hb⟩
  clear WF
  have hB1 : Below w.heap.size w w1 := below_thru hB0 hb
  have hs1 := hB1.size
  have x_f1 : Box w1 (w.heap.size) (V) := Box.below x_f0 hb
  clear hB0 hs0 x_f0
  clear hb
  obtain ⟨ga, ca, rfl, hga, lo, _, hbx⟩ := own_box hoa (by rw [LX.out]; decide)
  rw [LX.out] at lo ⊢
  have low_x : w.heap.size < ga := by omega
  clear zf hga
  clear hoa
  have x_x1 : Box w1 (ga) (XS.map (Value.int .u8)) := hbx
  clear hbx
  go_wp2_with (refine wpList_load_box9 rfl _ _ rfl x_f1 rfl Try.underlying43 rfl SV.out ?_)
  refine (TF _).mono ?_
  rintro e w2 ⟨rfl, hb⟩
  clear TF
  have hB2 : Below w.heap.size w w2 := below_thru hB1 hb
  have hs2 := hB2.size
  have x_f2 : Box w2 (w.heap.size) (V) := Box.below x_f1 hb
  have x_x2 : Box w2 (ga) (XS.map (Value.int .u8)) := Box.below x_x1 hb
  clear hB1 hs1 x_f1 x_x1
  clear hb
  have ca := (x_f2).c 0 _ v0
  have za := (x_f2).lt
  have cb0 := (x_x2).c 1 _ x0
  have zb0 := (x_x2).lt
  have cb1 := (x_x2).c 2 _ x1
  have zb1 := (x_x2).lt
  have cb2 := (x_x2).c 3 _ x2
  have zb2 := (x_x2).lt
  have cb3 := (x_x2).c 4 _ x3
  have zb3 := (x_x2).lt
  go_upto_region 12 with fail
  clear ca za cb0 zb0 cb1 zb1 cb2 zb2 cb3 zb3
  have cm := (x_x2).c m _ xm; have zm := (x_x2).lt
  go_upto_region 13 with (refine wpList_store_cell (k := m) (ws := YS.map (Value.int .u8)) (v := .int .u8 z) rfl _ _ _ rfl x_x2 rfl rfl rfl rfl size_u8n (by rw [List.length_map, LX.out]; omega) EY.out ?_; intro W5 hW5)
  have x_x3 := hW5.box; have x_f3 : Box W5 (w.heap.size) V := hW5.past _ _ (by omega) x_f2; have hB3 := hW5.below _ _ (by omega) hB2; have hs3 := hB3.size
  clear hW5 cm zm x_x2 x_f2 hB2 hs2
  go_wp2_with fail
  refine (PC _ _ (IsL.range 59 ca LY.out x_x3.range (by omega) (by omega))).mono ?_
  rintro e w4 ⟨rfl, hb⟩
  clear PC
  have hB4 : Below w.heap.size w w4 := below_thru hB3 hb
  have hs4 := hB4.size
  have x_f4 : Box w4 (w.heap.size) (V) := Box.below x_f3 hb
  have x_x4 : Box w4 (ga) (YS.map (Value.int .u8)) := Box.below x_x3 hb
  clear hB3 hs3 x_f3 x_x3
  clear hb
  clear x_x4
  have d_h_f := (x_f4).lt
  have d_h_0 := hs4
  go_upto_region 14 with (refine wpList_store_box (cs := VG) rfl _ _ _ rfl (Box.newc (l := mcell Frm.zero) rfl rfl) rfl rfl SG.out LG.out OG.out ?_; intro W4_0 hW4_0)
  have hN : Below w4.heap.size w4 W4_0 := (hW4_0.below _ _ (by omega) ((Below.refl _ w4).alloc (Nat.le_refl _) _))
  have x_h5 : Box W4_0 (w4.heap.size) (VG) := hW4_0.box
  have hB5 : Below w.heap.size w W4_0 := below_thru hB4 hN
  have hs5 := hB5.size
  have x_f5 : Box W4_0 (w.heap.size) (V) := Box.below x_f4 hN
  clear hB4 hs4 x_f4
  clear hN hW4_0
  go_wp2_with (first
    | (refine wpList_load_box9 rfl _ _ rfl x_h5 rfl Try.underlying43 rfl SG.out ?_)
    | (refine wpList_load_box9 rfl _ _ rfl x_f5 rfl Try.underlying43 rfl SV.out ?_))
  refine (alive9_is _).mono ?_
  rintro e w6 ⟨rfl, hb⟩
  have hB6 : Below w.heap.size w w6 := below_thru hB5 hb
  have hs6 := hB6.size
  have x_f6 : Box w6 (w.heap.size) (V) := Box.below x_f5 hb
  have x_h6 : Box w6 (w4.heap.size) (VG) := Box.below x_h5 hb
  clear hB5 hs5 x_f5 x_h5
  clear hb
  go_wp2_with fail
  go_returns
  exact ⟨rfl, hB6⟩

set_option maxRecDepth 100000 in
set_option maxHeartbeats 12800000 in
theorem ch9_g0_1 (f : Frm) (hA : f.Ok) {T : Int} (hs : Seen f 1 59 T) {m : Nat} {by0 : Int} (hm : m < 59) (hby : 0 ≤ by0 ∧ by0 ≤ 255) (hb0 : by0 ≠ 0) {YS : List Int} (H : Frm) (hne : H ≠ f) (hys : f.bs.set m (bits .xor .u8 (nth f.bs m) by0) = YS) (PC : Parses 12 YS H 0) (w : World) : Calls Try.prog 8 #[.agg (mcell f).toArray, .int .i64 m, .int .u8 by0] w fun e w' => e = .returned (.bool true) ∧ Below w.heap.size w w' := by
  have _ := hby
  have SV := Lib.hid (size_frm f)
  have v0 : (mcell f)[0]? = some (.int .u8 1) := by have h0 := hs.k; rw [← (show f.kd = 1 from h0)]; rfl
  have WF := fun W => wr_is f (xs := f.bs) (q := 0) (Or.inl ⟨rfl, hA, rfl⟩) W
  have TF := fun W => ten_is f (n := T) (q := 0) (Or.inl ⟨rfl, hA, hs.te.symm⟩) W
  have hl := hs.l; have ht := hs.t; have dT : decide (16 ≤ T) = false := decide_eq_false (by omega); have wT : IntKind.u32.wrap T = T := by rw [IntKind.wrap_u32]; omega
  have x0 : (f.bs.map (Value.int .u8))[1]? = some (.int .u8 0) := by rw [nth_at' 1 (by omega)]; rw [show nth f.bs 1 = 0 from hs.a]
  have x1 : (f.bs.map (Value.int .u8))[2]? = some (.int .u8 0) := by rw [nth_at' 2 (by omega)]; rw [show nth f.bs 2 = 0 from hs.b]
  have x2 : (f.bs.map (Value.int .u8))[3]? = some (.int .u8 0) := by rw [nth_at' 3 (by omega)]; rw [show nth f.bs 3 = 0 from hs.c]
  have x3 : (f.bs.map (Value.int .u8))[4]? = some (.int .u8 T) := by rw [nth_at' 4 (by omega)]; rw [show nth f.bs 4 = T from hs.d]
  have hyb := f.bs_byts (nth f.bs m) (nth_mem (by omega))
  have xm : (f.bs.map (Value.int .u8))[m]? = some (.int .u8 (nth f.bs m)) := nth_at' m (by omega)
  obtain ⟨y, hy⟩ : ∃ y, nth f.bs m = y := ⟨_, rfl⟩
  rw [hy] at xm hyb hys
  obtain ⟨z, hz⟩ : ∃ z, bits .xor .u8 y by0 = z := ⟨_, rfl⟩
  rw [hz] at hys
  have EY : Hid (YS.map (Value.int .u8) = (f.bs.map (Value.int .u8)).set m (.int .u8 z)) := Lib.hid (by rw [← hys, List.map_set])
  have LY : Hid (YS.length = 59) := Lib.hid (by rw [← hys, List.length_set, hl])
  have mi : (m : Int) < 59 := by omega
  have mi0 : (0 : Int) ≤ (m : Int) := by omega
  have d1 : decide ((m : Int) < 0) = false := decide_eq_false (by omega); have d2 : decide (59 ≤ (m : Int)) = false := decide_eq_false (by omega); have d3 : (by0 == 0) = false := by simpa using hb0
  unfold Parses at PC
  have SG := Lib.hid (size_frm H); have OG := Lib.hid (one_frm H); have LG0 := len_frm Frm.zero H
  have EN := fun W => eqm_f hne W
  obtain ⟨VG, hVG⟩ : ∃ V, mcell H = V := ⟨_, rfl⟩
  rw [hVG] at PC SG OG LG0 EN
  have LG := Lib.hid LG0
  clear LG0 hVG hy hys hyb hby hb0 hm hne
  obtain ⟨XS, hXS⟩ : ∃ X, f.bs = X := ⟨_, rfl⟩
  rw [hXS] at WF x0 x1 x2 x3 hl xm EY
  have LX := Lib.hid hl
  obtain ⟨V, hV⟩ : ∃ V, mcell f = V := ⟨_, rfl⟩
  rw [hV] at SV v0 WF TF EN ⊢
  clear hXS hV hA hs hl ht
  go_enter Try.func8, Try.ntmps8
  go_upto_region 1 with fail
  refine F_gen (F := fun W => Code.wp _ _ _ _ W) (J := fun W => Box W (w.heap.size) (V) ∧ Below w.heap.size w W) (And.intro (Box.newc rfl rfl) (by go_grown)) ?_
  intro w0 ⟨e_f, hB0⟩
  have hs0 := hB0.size
  have x_f0 := e_f; clear e_f
  have zf := (x_f0).lt
  go_wp2_with (refine wpList_load_box9 rfl _ _ rfl x_f0 rfl Try.underlying43 rfl SV.out ?_)
  refine (WF _).mono ?_
  rintro e w1 ⟨va, rfl, hoa, hb⟩
  clear WF
  have hB1 : Below w.heap.size w w1 := below_thru hB0 hb
  have hs1 := hB1.size
  have x_f1 : Box w1 (w.heap.size) (V) := Box.below x_f0 hb
  clear hB0 hs0 x_f0
  clear hb
  obtain ⟨ga, ca, rfl, hga, lo, _, hbx⟩ := own_box hoa (by rw [LX.out]; decide)
  rw [LX.out] at lo ⊢
  have low_x : w.heap.size < ga := by omega
  clear zf hga
  clear hoa
  have x_x1 : Box w1 (ga) (XS.map (Value.int .u8)) := hbx
  clear hbx
  go_wp2_with (refine wpList_load_box9 rfl _ _ rfl x_f1 rfl Try.underlying43 rfl SV.out ?_)
  refine (TF _).mono ?_
  rintro e w2 ⟨rfl, hb⟩
  clear TF
  have hB2 : Below w.heap.size w w2 := below_thru hB1 hb
  have hs2 := hB2.size
  have x_f2 : Box w2 (w.heap.size) (V) := Box.below x_f1 hb
  have x_x2 : Box w2 (ga) (XS.map (Value.int .u8)) := Box.below x_x1 hb
  clear hB1 hs1 x_f1 x_x1
  clear hb
  have ca := (x_f2).c 0 _ v0
  have za := (x_f2).lt
  have cb0 := (x_x2).c 1 _ x0
  have zb0 := (x_x2).lt
  have cb1 := (x_x2).c 2 _ x1
  have zb1 := (x_x2).lt
  have cb2 := (x_x2).c 3 _ x2
  have zb2 := (x_x2).lt
  have cb3 := (x_x2).c 4 _ x3
  have zb3 := (x_x2).lt
  go_upto_region 12 with fail
  clear ca za cb0 zb0 cb1 zb1 cb2 zb2 cb3 zb3
  have cm := (x_x2).c m _ xm; have zm := (x_x2).lt
  go_upto_region 13 with (refine wpList_store_cell (k := m) (ws := YS.map (Value.int .u8)) (v := .int .u8 z) rfl _ _ _ rfl x_x2 rfl rfl rfl rfl size_u8n (by rw [List.length_map, LX.out]; omega) EY.out ?_; intro W5 hW5)
  have x_x3 := hW5.box; have x_f3 : Box W5 (w.heap.size) V := hW5.past _ _ (by omega) x_f2; have hB3 := hW5.below _ _ (by omega) hB2; have hs3 := hB3.size
  clear hW5 cm zm x_x2 x_f2 hB2 hs2
  go_wp2_with fail
  refine (PC _ _ (IsL.range 59 ca LY.out x_x3.range (by omega) (by omega))).mono ?_
  rintro e w4 ⟨rfl, hb⟩
  clear PC
  have hB4 : Below w.heap.size w w4 := below_thru hB3 hb
  have hs4 := hB4.size
  have x_f4 : Box w4 (w.heap.size) (V) := Box.below x_f3 hb
  have x_x4 : Box w4 (ga) (YS.map (Value.int .u8)) := Box.below x_x3 hb
  clear hB3 hs3 x_f3 x_x3
  clear hb
  clear x_x4
  have d_h_f := (x_f4).lt
  have d_h_0 := hs4
  go_upto_region 14 with (refine wpList_store_box (cs := VG) rfl _ _ _ rfl (Box.newc (l := mcell Frm.zero) rfl rfl) rfl rfl SG.out LG.out OG.out ?_; intro W4_0 hW4_0)
  have hN : Below w4.heap.size w4 W4_0 := (hW4_0.below _ _ (by omega) ((Below.refl _ w4).alloc (Nat.le_refl _) _))
  have x_h5 : Box W4_0 (w4.heap.size) (VG) := hW4_0.box
  have hB5 : Below w.heap.size w W4_0 := below_thru hB4 hN
  have hs5 := hB5.size
  have x_f5 : Box W4_0 (w.heap.size) (V) := Box.below x_f4 hN
  clear hB4 hs4 x_f4
  clear hN hW4_0
  go_wp2_with (first
    | (refine wpList_load_box9 rfl _ _ rfl x_h5 rfl Try.underlying43 rfl SG.out ?_)
    | (refine wpList_load_box9 rfl _ _ rfl x_f5 rfl Try.underlying43 rfl SV.out ?_))
  refine (alive9_is _).mono ?_
  rintro e w6 ⟨rfl, hb⟩
  have hB6 : Below w.heap.size w w6 := below_thru hB5 hb
  have hs6 := hB6.size
  have x_f6 : Box w6 (w.heap.size) (V) := Box.below x_f5 hb
  have x_h6 : Box w6 (w4.heap.size) (VG) := Box.below x_h5 hb
  clear hB5 hs5 x_f5 x_h5
  clear hb
  go_wp2_with fail
  go_returns
  exact ⟨rfl, hB6⟩

set_option maxRecDepth 100000 in
set_option maxHeartbeats 12800000 in
theorem ch9_r1_2 (f : Frm) (hA : f.Ok) {T : Int} (hs : Seen f 2 88 T) {at0 by0 : Int} (d1 : decide (at0 < 0) = true) (w : World) : Calls Try.prog 8 #[.agg (mcell f).toArray, .int .i64 at0, .int .u8 by0] w fun e w' => e = .returned (.bool true) ∧ Below w.heap.size w w' := by
  have SV := Lib.hid (size_frm f)
  have v0 : (mcell f)[0]? = some (.int .u8 2) := by have h0 := hs.k; rw [← (show f.kd = 2 from h0)]; rfl
  have WF := fun W => wr_is f (xs := f.bs) (q := 0) (Or.inl ⟨rfl, hA, rfl⟩) W
  have TF := fun W => ten_is f (n := T) (q := 0) (Or.inl ⟨rfl, hA, hs.te.symm⟩) W
  have hl := hs.l; have ht := hs.t; have dT : decide (16 ≤ T) = false := decide_eq_false (by omega); have wT : IntKind.u32.wrap T = T := by rw [IntKind.wrap_u32]; omega
  have x0 : (f.bs.map (Value.int .u8))[2]? = some (.int .u8 0) := by rw [nth_at' 2 (by omega)]; rw [show nth f.bs 2 = 0 from hs.a]
  have x1 : (f.bs.map (Value.int .u8))[3]? = some (.int .u8 0) := by rw [nth_at' 3 (by omega)]; rw [show nth f.bs 3 = 0 from hs.b]
  have x2 : (f.bs.map (Value.int .u8))[4]? = some (.int .u8 0) := by rw [nth_at' 4 (by omega)]; rw [show nth f.bs 4 = 0 from hs.c]
  have x3 : (f.bs.map (Value.int .u8))[5]? = some (.int .u8 T) := by rw [nth_at' 5 (by omega)]; rw [show nth f.bs 5 = T from hs.d]
  obtain ⟨XS, hXS⟩ : ∃ X, f.bs = X := ⟨_, rfl⟩
  rw [hXS] at WF x0 x1 x2 x3 hl
  have LX := Lib.hid hl
  obtain ⟨V, hV⟩ : ∃ V, mcell f = V := ⟨_, rfl⟩
  rw [hV] at SV v0 WF TF ⊢
  clear hXS hV hA hs hl ht
  go_enter Try.func8, Try.ntmps8
  go_upto_region 1 with fail
  refine F_gen (F := fun W => Code.wp _ _ _ _ W) (J := fun W => Box W (w.heap.size) (V) ∧ Below w.heap.size w W) (And.intro (Box.newc rfl rfl) (by go_grown)) ?_
  intro w0 ⟨e_f, hB0⟩
  have hs0 := hB0.size
  have x_f0 := e_f; clear e_f
  have zf := (x_f0).lt
  go_wp2_with (refine wpList_load_box9 rfl _ _ rfl x_f0 rfl Try.underlying43 rfl SV.out ?_)
  refine (WF _).mono ?_
  rintro e w1 ⟨va, rfl, hoa, hb⟩
  clear WF
  have hB1 : Below w.heap.size w w1 := below_thru hB0 hb
  have hs1 := hB1.size
  have x_f1 : Box w1 (w.heap.size) (V) := Box.below x_f0 hb
  clear hB0 hs0 x_f0
  clear hb
  obtain ⟨ga, ca, rfl, hga, lo, _, hbx⟩ := own_box hoa (by rw [LX.out]; decide)
  rw [LX.out] at lo ⊢
  have low_x : w.heap.size < ga := by omega
  clear zf hga
  clear hoa
  have x_x1 : Box w1 (ga) (XS.map (Value.int .u8)) := hbx
  clear hbx
  go_wp2_with (refine wpList_load_box9 rfl _ _ rfl x_f1 rfl Try.underlying43 rfl SV.out ?_)
  refine (TF _).mono ?_
  rintro e w2 ⟨rfl, hb⟩
  clear TF
  have hB2 : Below w.heap.size w w2 := below_thru hB1 hb
  have hs2 := hB2.size
  have x_f2 : Box w2 (w.heap.size) (V) := Box.below x_f1 hb
  have x_x2 : Box w2 (ga) (XS.map (Value.int .u8)) := Box.below x_x1 hb
  clear hB1 hs1 x_f1 x_x1
  clear hb
  have ca := (x_f2).c 0 _ v0
  have za := (x_f2).lt
  have cb0 := (x_x2).c 2 _ x0
  have zb0 := (x_x2).lt
  have cb1 := (x_x2).c 3 _ x1
  have zb1 := (x_x2).lt
  have cb2 := (x_x2).c 4 _ x2
  have zb2 := (x_x2).lt
  have cb3 := (x_x2).c 5 _ x3
  have zb3 := (x_x2).lt
  go_upto_region 10 with fail
  clear ca za cb0 zb0 cb1 zb1 cb2 zb2 cb3 zb3
  go_wp2_with fail
  refine (alive9_is _).mono ?_
  rintro e w3 ⟨rfl, hb⟩
  have hB3 : Below w.heap.size w w3 := below_thru hB2 hb
  have hs3 := hB3.size
  have x_f3 : Box w3 (w.heap.size) (V) := Box.below x_f2 hb
  have x_x3 : Box w3 (ga) (XS.map (Value.int .u8)) := Box.below x_x2 hb
  clear hB2 hs2 x_f2 x_x2
  clear hb
  go_wp2_with fail
  go_returns
  exact ⟨rfl, hB3⟩

set_option maxRecDepth 100000 in
set_option maxHeartbeats 12800000 in
theorem ch9_r2_2 (f : Frm) (hA : f.Ok) {T : Int} (hs : Seen f 2 88 T) {at0 by0 : Int} (d1 : decide (at0 < 0) = false) (d2 : decide (88 ≤ at0) = true) (w : World) : Calls Try.prog 8 #[.agg (mcell f).toArray, .int .i64 at0, .int .u8 by0] w fun e w' => e = .returned (.bool true) ∧ Below w.heap.size w w' := by
  have SV := Lib.hid (size_frm f)
  have v0 : (mcell f)[0]? = some (.int .u8 2) := by have h0 := hs.k; rw [← (show f.kd = 2 from h0)]; rfl
  have WF := fun W => wr_is f (xs := f.bs) (q := 0) (Or.inl ⟨rfl, hA, rfl⟩) W
  have TF := fun W => ten_is f (n := T) (q := 0) (Or.inl ⟨rfl, hA, hs.te.symm⟩) W
  have hl := hs.l; have ht := hs.t; have dT : decide (16 ≤ T) = false := decide_eq_false (by omega); have wT : IntKind.u32.wrap T = T := by rw [IntKind.wrap_u32]; omega
  have x0 : (f.bs.map (Value.int .u8))[2]? = some (.int .u8 0) := by rw [nth_at' 2 (by omega)]; rw [show nth f.bs 2 = 0 from hs.a]
  have x1 : (f.bs.map (Value.int .u8))[3]? = some (.int .u8 0) := by rw [nth_at' 3 (by omega)]; rw [show nth f.bs 3 = 0 from hs.b]
  have x2 : (f.bs.map (Value.int .u8))[4]? = some (.int .u8 0) := by rw [nth_at' 4 (by omega)]; rw [show nth f.bs 4 = 0 from hs.c]
  have x3 : (f.bs.map (Value.int .u8))[5]? = some (.int .u8 T) := by rw [nth_at' 5 (by omega)]; rw [show nth f.bs 5 = T from hs.d]
  obtain ⟨XS, hXS⟩ : ∃ X, f.bs = X := ⟨_, rfl⟩
  rw [hXS] at WF x0 x1 x2 x3 hl
  have LX := Lib.hid hl
  obtain ⟨V, hV⟩ : ∃ V, mcell f = V := ⟨_, rfl⟩
  rw [hV] at SV v0 WF TF ⊢
  clear hXS hV hA hs hl ht
  go_enter Try.func8, Try.ntmps8
  go_upto_region 1 with fail
  refine F_gen (F := fun W => Code.wp _ _ _ _ W) (J := fun W => Box W (w.heap.size) (V) ∧ Below w.heap.size w W) (And.intro (Box.newc rfl rfl) (by go_grown)) ?_
  intro w0 ⟨e_f, hB0⟩
  have hs0 := hB0.size
  have x_f0 := e_f; clear e_f
  have zf := (x_f0).lt
  go_wp2_with (refine wpList_load_box9 rfl _ _ rfl x_f0 rfl Try.underlying43 rfl SV.out ?_)
  refine (WF _).mono ?_
  rintro e w1 ⟨va, rfl, hoa, hb⟩
  clear WF
  have hB1 : Below w.heap.size w w1 := below_thru hB0 hb
  have hs1 := hB1.size
  have x_f1 : Box w1 (w.heap.size) (V) := Box.below x_f0 hb
  clear hB0 hs0 x_f0
  clear hb
  obtain ⟨ga, ca, rfl, hga, lo, _, hbx⟩ := own_box hoa (by rw [LX.out]; decide)
  rw [LX.out] at lo ⊢
  have low_x : w.heap.size < ga := by omega
  clear zf hga
  clear hoa
  have x_x1 : Box w1 (ga) (XS.map (Value.int .u8)) := hbx
  clear hbx
  go_wp2_with (refine wpList_load_box9 rfl _ _ rfl x_f1 rfl Try.underlying43 rfl SV.out ?_)
  refine (TF _).mono ?_
  rintro e w2 ⟨rfl, hb⟩
  clear TF
  have hB2 : Below w.heap.size w w2 := below_thru hB1 hb
  have hs2 := hB2.size
  have x_f2 : Box w2 (w.heap.size) (V) := Box.below x_f1 hb
  have x_x2 : Box w2 (ga) (XS.map (Value.int .u8)) := Box.below x_x1 hb
  clear hB1 hs1 x_f1 x_x1
  clear hb
  have ca := (x_f2).c 0 _ v0
  have za := (x_f2).lt
  have cb0 := (x_x2).c 2 _ x0
  have zb0 := (x_x2).lt
  have cb1 := (x_x2).c 3 _ x1
  have zb1 := (x_x2).lt
  have cb2 := (x_x2).c 4 _ x2
  have zb2 := (x_x2).lt
  have cb3 := (x_x2).c 5 _ x3
  have zb3 := (x_x2).lt
  go_upto_region 10 with fail
  clear ca za cb0 zb0 cb1 zb1 cb2 zb2 cb3 zb3
  go_wp2_with fail
  refine (alive9_is _).mono ?_
  rintro e w3 ⟨rfl, hb⟩
  have hB3 : Below w.heap.size w w3 := below_thru hB2 hb
  have hs3 := hB3.size
  have x_f3 : Box w3 (w.heap.size) (V) := Box.below x_f2 hb
  have x_x3 : Box w3 (ga) (XS.map (Value.int .u8)) := Box.below x_x2 hb
  clear hB2 hs2 x_f2 x_x2
  clear hb
  go_wp2_with fail
  go_returns
  exact ⟨rfl, hB3⟩

set_option maxRecDepth 100000 in
set_option maxHeartbeats 12800000 in
theorem ch9_r3_2 (f : Frm) (hA : f.Ok) {T : Int} (hs : Seen f 2 88 T) {at0 : Int} (d1 : decide (at0 < 0) = false) (d2 : decide (88 ≤ at0) = false) (w : World) : Calls Try.prog 8 #[.agg (mcell f).toArray, .int .i64 at0, .int .u8 0] w fun e w' => e = .returned (.bool true) ∧ Below w.heap.size w w' := by
  have SV := Lib.hid (size_frm f)
  have v0 : (mcell f)[0]? = some (.int .u8 2) := by have h0 := hs.k; rw [← (show f.kd = 2 from h0)]; rfl
  have WF := fun W => wr_is f (xs := f.bs) (q := 0) (Or.inl ⟨rfl, hA, rfl⟩) W
  have TF := fun W => ten_is f (n := T) (q := 0) (Or.inl ⟨rfl, hA, hs.te.symm⟩) W
  have hl := hs.l; have ht := hs.t; have dT : decide (16 ≤ T) = false := decide_eq_false (by omega); have wT : IntKind.u32.wrap T = T := by rw [IntKind.wrap_u32]; omega
  have x0 : (f.bs.map (Value.int .u8))[2]? = some (.int .u8 0) := by rw [nth_at' 2 (by omega)]; rw [show nth f.bs 2 = 0 from hs.a]
  have x1 : (f.bs.map (Value.int .u8))[3]? = some (.int .u8 0) := by rw [nth_at' 3 (by omega)]; rw [show nth f.bs 3 = 0 from hs.b]
  have x2 : (f.bs.map (Value.int .u8))[4]? = some (.int .u8 0) := by rw [nth_at' 4 (by omega)]; rw [show nth f.bs 4 = 0 from hs.c]
  have x3 : (f.bs.map (Value.int .u8))[5]? = some (.int .u8 T) := by rw [nth_at' 5 (by omega)]; rw [show nth f.bs 5 = T from hs.d]
  obtain ⟨XS, hXS⟩ : ∃ X, f.bs = X := ⟨_, rfl⟩
  rw [hXS] at WF x0 x1 x2 x3 hl
  have LX := Lib.hid hl
  obtain ⟨V, hV⟩ : ∃ V, mcell f = V := ⟨_, rfl⟩
  rw [hV] at SV v0 WF TF ⊢
  clear hXS hV hA hs hl ht
  go_enter Try.func8, Try.ntmps8
  go_upto_region 1 with fail
  refine F_gen (F := fun W => Code.wp _ _ _ _ W) (J := fun W => Box W (w.heap.size) (V) ∧ Below w.heap.size w W) (And.intro (Box.newc rfl rfl) (by go_grown)) ?_
  intro w0 ⟨e_f, hB0⟩
  have hs0 := hB0.size
  have x_f0 := e_f; clear e_f
  have zf := (x_f0).lt
  go_wp2_with (refine wpList_load_box9 rfl _ _ rfl x_f0 rfl Try.underlying43 rfl SV.out ?_)
  refine (WF _).mono ?_
  rintro e w1 ⟨va, rfl, hoa, hb⟩
  clear WF
  have hB1 : Below w.heap.size w w1 := below_thru hB0 hb
  have hs1 := hB1.size
  have x_f1 : Box w1 (w.heap.size) (V) := Box.below x_f0 hb
  clear hB0 hs0 x_f0
  clear hb
  obtain ⟨ga, ca, rfl, hga, lo, _, hbx⟩ := own_box hoa (by rw [LX.out]; decide)
  rw [LX.out] at lo ⊢
  have low_x : w.heap.size < ga := by omega
  clear zf hga
  clear hoa
  have x_x1 : Box w1 (ga) (XS.map (Value.int .u8)) := hbx
  clear hbx
  go_wp2_with (refine wpList_load_box9 rfl _ _ rfl x_f1 rfl Try.underlying43 rfl SV.out ?_)
  refine (TF _).mono ?_
  rintro e w2 ⟨rfl, hb⟩
  clear TF
  have hB2 : Below w.heap.size w w2 := below_thru hB1 hb
  have hs2 := hB2.size
  have x_f2 : Box w2 (w.heap.size) (V) := Box.below x_f1 hb
  have x_x2 : Box w2 (ga) (XS.map (Value.int .u8)) := Box.below x_x1 hb
  clear hB1 hs1 x_f1 x_x1
  clear hb
  have ca := (x_f2).c 0 _ v0
  have za := (x_f2).lt
  have cb0 := (x_x2).c 2 _ x0
  have zb0 := (x_x2).lt
  have cb1 := (x_x2).c 3 _ x1
  have zb1 := (x_x2).lt
  have cb2 := (x_x2).c 4 _ x2
  have zb2 := (x_x2).lt
  have cb3 := (x_x2).c 5 _ x3
  have zb3 := (x_x2).lt
  go_upto_region 10 with fail
  clear ca za cb0 zb0 cb1 zb1 cb2 zb2 cb3 zb3
  go_wp2_with fail
  refine (alive9_is _).mono ?_
  rintro e w3 ⟨rfl, hb⟩
  have hB3 : Below w.heap.size w w3 := below_thru hB2 hb
  have hs3 := hB3.size
  have x_f3 : Box w3 (w.heap.size) (V) := Box.below x_f2 hb
  have x_x3 : Box w3 (ga) (XS.map (Value.int .u8)) := Box.below x_x2 hb
  clear hB2 hs2 x_f2 x_x2
  clear hb
  go_wp2_with fail
  go_returns
  exact ⟨rfl, hB3⟩

set_option maxRecDepth 100000 in
set_option maxHeartbeats 12800000 in
theorem ch9_g12_2 (f : Frm) (hA : f.Ok) {T : Int} (hs : Seen f 2 88 T) {m : Nat} {by0 : Int} (hm : m < 88) (hby : 0 ≤ by0 ∧ by0 ≤ 255) (hb0 : by0 ≠ 0) {YS : List Int} (hys : f.bs.set m (bits .xor .u8 (nth f.bs m) by0) = YS) (PC : Parses 12 YS Frm.zero 12) (w : World) : Calls Try.prog 8 #[.agg (mcell f).toArray, .int .i64 m, .int .u8 by0] w fun e w' => e = .returned (.bool true) ∧ Below w.heap.size w w' := by
  have _ := hby
  have SV := Lib.hid (size_frm f)
  have v0 : (mcell f)[0]? = some (.int .u8 2) := by have h0 := hs.k; rw [← (show f.kd = 2 from h0)]; rfl
  have WF := fun W => wr_is f (xs := f.bs) (q := 0) (Or.inl ⟨rfl, hA, rfl⟩) W
  have TF := fun W => ten_is f (n := T) (q := 0) (Or.inl ⟨rfl, hA, hs.te.symm⟩) W
  have hl := hs.l; have ht := hs.t; have dT : decide (16 ≤ T) = false := decide_eq_false (by omega); have wT : IntKind.u32.wrap T = T := by rw [IntKind.wrap_u32]; omega
  have x0 : (f.bs.map (Value.int .u8))[2]? = some (.int .u8 0) := by rw [nth_at' 2 (by omega)]; rw [show nth f.bs 2 = 0 from hs.a]
  have x1 : (f.bs.map (Value.int .u8))[3]? = some (.int .u8 0) := by rw [nth_at' 3 (by omega)]; rw [show nth f.bs 3 = 0 from hs.b]
  have x2 : (f.bs.map (Value.int .u8))[4]? = some (.int .u8 0) := by rw [nth_at' 4 (by omega)]; rw [show nth f.bs 4 = 0 from hs.c]
  have x3 : (f.bs.map (Value.int .u8))[5]? = some (.int .u8 T) := by rw [nth_at' 5 (by omega)]; rw [show nth f.bs 5 = T from hs.d]
  have hyb := f.bs_byts (nth f.bs m) (nth_mem (by omega))
  have xm : (f.bs.map (Value.int .u8))[m]? = some (.int .u8 (nth f.bs m)) := nth_at' m (by omega)
  obtain ⟨y, hy⟩ : ∃ y, nth f.bs m = y := ⟨_, rfl⟩
  rw [hy] at xm hyb hys
  obtain ⟨z, hz⟩ : ∃ z, bits .xor .u8 y by0 = z := ⟨_, rfl⟩
  rw [hz] at hys
  have EY : Hid (YS.map (Value.int .u8) = (f.bs.map (Value.int .u8)).set m (.int .u8 z)) := Lib.hid (by rw [← hys, List.map_set])
  have LY : Hid (YS.length = 88) := Lib.hid (by rw [← hys, List.length_set, hl])
  have mi : (m : Int) < 88 := by omega
  have mi0 : (0 : Int) ≤ (m : Int) := by omega
  have d1 : decide ((m : Int) < 0) = false := decide_eq_false (by omega); have d2 : decide (88 ≤ (m : Int)) = false := decide_eq_false (by omega); have d3 : (by0 == 0) = false := by simpa using hb0
  unfold Parses at PC
  have SG := Lib.hid (size_frm Frm.zero); have OG := Lib.hid (one_frm Frm.zero); have LG0 := len_frm Frm.zero Frm.zero
  obtain ⟨VG, hVG⟩ : ∃ V, mcell Frm.zero = V := ⟨_, rfl⟩
  have LG : Hid ((mcell Frm.zero).length = VG.length) := Lib.hid (by rw [hVG])
  rw [hVG] at PC SG OG
  clear LG0 hVG hy hys hyb hby hb0 hm
  obtain ⟨XS, hXS⟩ : ∃ X, f.bs = X := ⟨_, rfl⟩
  rw [hXS] at WF x0 x1 x2 x3 hl xm EY
  have LX := Lib.hid hl
  obtain ⟨V, hV⟩ : ∃ V, mcell f = V := ⟨_, rfl⟩
  rw [hV] at SV v0 WF TF ⊢
  clear hXS hV hA hs hl ht
  go_enter Try.func8, Try.ntmps8
  go_upto_region 1 with fail
  refine F_gen (F := fun W => Code.wp _ _ _ _ W) (J := fun W => Box W (w.heap.size) (V) ∧ Below w.heap.size w W) (And.intro (Box.newc rfl rfl) (by go_grown)) ?_
  intro w0 ⟨e_f, hB0⟩
  have hs0 := hB0.size
  have x_f0 := e_f; clear e_f
  have zf := (x_f0).lt
  go_wp2_with (refine wpList_load_box9 rfl _ _ rfl x_f0 rfl Try.underlying43 rfl SV.out ?_)
  refine (WF _).mono ?_
  rintro e w1 ⟨va, rfl, hoa, hb⟩
  clear WF
  have hB1 : Below w.heap.size w w1 := below_thru hB0 hb
  have hs1 := hB1.size
  have x_f1 : Box w1 (w.heap.size) (V) := Box.below x_f0 hb
  clear hB0 hs0 x_f0
  clear hb
  obtain ⟨ga, ca, rfl, hga, lo, _, hbx⟩ := own_box hoa (by rw [LX.out]; decide)
  rw [LX.out] at lo ⊢
  have low_x : w.heap.size < ga := by omega
  clear zf hga
  clear hoa
  have x_x1 : Box w1 (ga) (XS.map (Value.int .u8)) := hbx
  clear hbx
  go_wp2_with (refine wpList_load_box9 rfl _ _ rfl x_f1 rfl Try.underlying43 rfl SV.out ?_)
  refine (TF _).mono ?_
  rintro e w2 ⟨rfl, hb⟩
  clear TF
  have hB2 : Below w.heap.size w w2 := below_thru hB1 hb
  have hs2 := hB2.size
  have x_f2 : Box w2 (w.heap.size) (V) := Box.below x_f1 hb
  have x_x2 : Box w2 (ga) (XS.map (Value.int .u8)) := Box.below x_x1 hb
  clear hB1 hs1 x_f1 x_x1
  clear hb
  have ca := (x_f2).c 0 _ v0
  have za := (x_f2).lt
  have cb0 := (x_x2).c 2 _ x0
  have zb0 := (x_x2).lt
  have cb1 := (x_x2).c 3 _ x1
  have zb1 := (x_x2).lt
  have cb2 := (x_x2).c 4 _ x2
  have zb2 := (x_x2).lt
  have cb3 := (x_x2).c 5 _ x3
  have zb3 := (x_x2).lt
  go_upto_region 12 with fail
  clear ca za cb0 zb0 cb1 zb1 cb2 zb2 cb3 zb3
  have cm := (x_x2).c m _ xm; have zm := (x_x2).lt
  go_upto_region 13 with (refine wpList_store_cell (k := m) (ws := YS.map (Value.int .u8)) (v := .int .u8 z) rfl _ _ _ rfl x_x2 rfl rfl rfl rfl size_u8n (by rw [List.length_map, LX.out]; omega) EY.out ?_; intro W5 hW5)
  have x_x3 := hW5.box; have x_f3 : Box W5 (w.heap.size) V := hW5.past _ _ (by omega) x_f2; have hB3 := hW5.below _ _ (by omega) hB2; have hs3 := hB3.size
  clear hW5 cm zm x_x2 x_f2 hB2 hs2
  go_wp2_with fail
  refine (PC _ _ (IsL.range 88 ca LY.out x_x3.range (by omega) (by omega))).mono ?_
  rintro e w4 ⟨rfl, hb⟩
  clear PC
  have hB4 : Below w.heap.size w w4 := below_thru hB3 hb
  have hs4 := hB4.size
  have x_f4 : Box w4 (w.heap.size) (V) := Box.below x_f3 hb
  have x_x4 : Box w4 (ga) (YS.map (Value.int .u8)) := Box.below x_x3 hb
  clear hB3 hs3 x_f3 x_x3
  clear hb
  clear x_x4
  have d_h_f := (x_f4).lt
  have d_h_0 := hs4
  go_upto_region 14 with (refine wpList_store_box (cs := VG) rfl _ _ _ rfl (Box.newc (l := mcell Frm.zero) rfl rfl) rfl rfl SG.out LG.out OG.out ?_; intro W4_0 hW4_0)
  have hN : Below w4.heap.size w4 W4_0 := (hW4_0.below _ _ (by omega) ((Below.refl _ w4).alloc (Nat.le_refl _) _))
  have x_h5 : Box W4_0 (w4.heap.size) (VG) := hW4_0.box
  have hB5 : Below w.heap.size w W4_0 := below_thru hB4 hN
  have hs5 := hB5.size
  have x_f5 : Box W4_0 (w.heap.size) (V) := Box.below x_f4 hN
  clear hB4 hs4 x_f4
  clear hN hW4_0
  go_wp2_with (first
    | (refine wpList_load_box9 rfl _ _ rfl x_h5 rfl Try.underlying43 rfl SG.out ?_)
    | (refine wpList_load_box9 rfl _ _ rfl x_f5 rfl Try.underlying43 rfl SV.out ?_))
  refine (alive9_is _).mono ?_
  rintro e w6 ⟨rfl, hb⟩
  have hB6 : Below w.heap.size w w6 := below_thru hB5 hb
  have hs6 := hB6.size
  have x_f6 : Box w6 (w.heap.size) (V) := Box.below x_f5 hb
  have x_h6 : Box w6 (w4.heap.size) (VG) := Box.below x_h5 hb
  clear hB5 hs5 x_f5 x_h5
  clear hb
  go_wp2_with fail
  go_returns
  exact ⟨rfl, hB6⟩

set_option maxRecDepth 100000 in
set_option maxHeartbeats 12800000 in
theorem ch9_g0_2 (f : Frm) (hA : f.Ok) {T : Int} (hs : Seen f 2 88 T) {m : Nat} {by0 : Int} (hm : m < 88) (hby : 0 ≤ by0 ∧ by0 ≤ 255) (hb0 : by0 ≠ 0) {YS : List Int} (H : Frm) (hne : H ≠ f) (hys : f.bs.set m (bits .xor .u8 (nth f.bs m) by0) = YS) (PC : Parses 12 YS H 0) (w : World) : Calls Try.prog 8 #[.agg (mcell f).toArray, .int .i64 m, .int .u8 by0] w fun e w' => e = .returned (.bool true) ∧ Below w.heap.size w w' := by
  have _ := hby
  have SV := Lib.hid (size_frm f)
  have v0 : (mcell f)[0]? = some (.int .u8 2) := by have h0 := hs.k; rw [← (show f.kd = 2 from h0)]; rfl
  have WF := fun W => wr_is f (xs := f.bs) (q := 0) (Or.inl ⟨rfl, hA, rfl⟩) W
  have TF := fun W => ten_is f (n := T) (q := 0) (Or.inl ⟨rfl, hA, hs.te.symm⟩) W
  have hl := hs.l; have ht := hs.t; have dT : decide (16 ≤ T) = false := decide_eq_false (by omega); have wT : IntKind.u32.wrap T = T := by rw [IntKind.wrap_u32]; omega
  have x0 : (f.bs.map (Value.int .u8))[2]? = some (.int .u8 0) := by rw [nth_at' 2 (by omega)]; rw [show nth f.bs 2 = 0 from hs.a]
  have x1 : (f.bs.map (Value.int .u8))[3]? = some (.int .u8 0) := by rw [nth_at' 3 (by omega)]; rw [show nth f.bs 3 = 0 from hs.b]
  have x2 : (f.bs.map (Value.int .u8))[4]? = some (.int .u8 0) := by rw [nth_at' 4 (by omega)]; rw [show nth f.bs 4 = 0 from hs.c]
  have x3 : (f.bs.map (Value.int .u8))[5]? = some (.int .u8 T) := by rw [nth_at' 5 (by omega)]; rw [show nth f.bs 5 = T from hs.d]
  have hyb := f.bs_byts (nth f.bs m) (nth_mem (by omega))
  have xm : (f.bs.map (Value.int .u8))[m]? = some (.int .u8 (nth f.bs m)) := nth_at' m (by omega)
  obtain ⟨y, hy⟩ : ∃ y, nth f.bs m = y := ⟨_, rfl⟩
  rw [hy] at xm hyb hys
  obtain ⟨z, hz⟩ : ∃ z, bits .xor .u8 y by0 = z := ⟨_, rfl⟩
  rw [hz] at hys
  have EY : Hid (YS.map (Value.int .u8) = (f.bs.map (Value.int .u8)).set m (.int .u8 z)) := Lib.hid (by rw [← hys, List.map_set])
  have LY : Hid (YS.length = 88) := Lib.hid (by rw [← hys, List.length_set, hl])
  have mi : (m : Int) < 88 := by omega
  have mi0 : (0 : Int) ≤ (m : Int) := by omega
  have d1 : decide ((m : Int) < 0) = false := decide_eq_false (by omega); have d2 : decide (88 ≤ (m : Int)) = false := decide_eq_false (by omega); have d3 : (by0 == 0) = false := by simpa using hb0
  unfold Parses at PC
  have SG := Lib.hid (size_frm H); have OG := Lib.hid (one_frm H); have LG0 := len_frm Frm.zero H
  have EN := fun W => eqm_f hne W
  obtain ⟨VG, hVG⟩ : ∃ V, mcell H = V := ⟨_, rfl⟩
  rw [hVG] at PC SG OG LG0 EN
  have LG := Lib.hid LG0
  clear LG0 hVG hy hys hyb hby hb0 hm hne
  obtain ⟨XS, hXS⟩ : ∃ X, f.bs = X := ⟨_, rfl⟩
  rw [hXS] at WF x0 x1 x2 x3 hl xm EY
  have LX := Lib.hid hl
  obtain ⟨V, hV⟩ : ∃ V, mcell f = V := ⟨_, rfl⟩
  rw [hV] at SV v0 WF TF EN ⊢
  clear hXS hV hA hs hl ht
  go_enter Try.func8, Try.ntmps8
  go_upto_region 1 with fail
  refine F_gen (F := fun W => Code.wp _ _ _ _ W) (J := fun W => Box W (w.heap.size) (V) ∧ Below w.heap.size w W) (And.intro (Box.newc rfl rfl) (by go_grown)) ?_
  intro w0 ⟨e_f, hB0⟩
  have hs0 := hB0.size
  have x_f0 := e_f; clear e_f
  have zf := (x_f0).lt
  go_wp2_with (refine wpList_load_box9 rfl _ _ rfl x_f0 rfl Try.underlying43 rfl SV.out ?_)
  refine (WF _).mono ?_
  rintro e w1 ⟨va, rfl, hoa, hb⟩
  clear WF
  have hB1 : Below w.heap.size w w1 := below_thru hB0 hb
  have hs1 := hB1.size
  have x_f1 : Box w1 (w.heap.size) (V) := Box.below x_f0 hb
  clear hB0 hs0 x_f0
  clear hb
  obtain ⟨ga, ca, rfl, hga, lo, _, hbx⟩ := own_box hoa (by rw [LX.out]; decide)
  rw [LX.out] at lo ⊢
  have low_x : w.heap.size < ga := by omega
  clear zf hga
  clear hoa
  have x_x1 : Box w1 (ga) (XS.map (Value.int .u8)) := hbx
  clear hbx
  go_wp2_with (refine wpList_load_box9 rfl _ _ rfl x_f1 rfl Try.underlying43 rfl SV.out ?_)
  refine (TF _).mono ?_
  rintro e w2 ⟨rfl, hb⟩
  clear TF
  have hB2 : Below w.heap.size w w2 := below_thru hB1 hb
  have hs2 := hB2.size
  have x_f2 : Box w2 (w.heap.size) (V) := Box.below x_f1 hb
  have x_x2 : Box w2 (ga) (XS.map (Value.int .u8)) := Box.below x_x1 hb
  clear hB1 hs1 x_f1 x_x1
  clear hb
  have ca := (x_f2).c 0 _ v0
  have za := (x_f2).lt
  have cb0 := (x_x2).c 2 _ x0
  have zb0 := (x_x2).lt
  have cb1 := (x_x2).c 3 _ x1
  have zb1 := (x_x2).lt
  have cb2 := (x_x2).c 4 _ x2
  have zb2 := (x_x2).lt
  have cb3 := (x_x2).c 5 _ x3
  have zb3 := (x_x2).lt
  go_upto_region 12 with fail
  clear ca za cb0 zb0 cb1 zb1 cb2 zb2 cb3 zb3
  have cm := (x_x2).c m _ xm; have zm := (x_x2).lt
  go_upto_region 13 with (refine wpList_store_cell (k := m) (ws := YS.map (Value.int .u8)) (v := .int .u8 z) rfl _ _ _ rfl x_x2 rfl rfl rfl rfl size_u8n (by rw [List.length_map, LX.out]; omega) EY.out ?_; intro W5 hW5)
  have x_x3 := hW5.box; have x_f3 : Box W5 (w.heap.size) V := hW5.past _ _ (by omega) x_f2; have hB3 := hW5.below _ _ (by omega) hB2; have hs3 := hB3.size
  clear hW5 cm zm x_x2 x_f2 hB2 hs2
  go_wp2_with fail
  refine (PC _ _ (IsL.range 88 ca LY.out x_x3.range (by omega) (by omega))).mono ?_
  rintro e w4 ⟨rfl, hb⟩
  clear PC
  have hB4 : Below w.heap.size w w4 := below_thru hB3 hb
  have hs4 := hB4.size
  have x_f4 : Box w4 (w.heap.size) (V) := Box.below x_f3 hb
  have x_x4 : Box w4 (ga) (YS.map (Value.int .u8)) := Box.below x_x3 hb
  clear hB3 hs3 x_f3 x_x3
  clear hb
  clear x_x4
  have d_h_f := (x_f4).lt
  have d_h_0 := hs4
  go_upto_region 14 with (refine wpList_store_box (cs := VG) rfl _ _ _ rfl (Box.newc (l := mcell Frm.zero) rfl rfl) rfl rfl SG.out LG.out OG.out ?_; intro W4_0 hW4_0)
  have hN : Below w4.heap.size w4 W4_0 := (hW4_0.below _ _ (by omega) ((Below.refl _ w4).alloc (Nat.le_refl _) _))
  have x_h5 : Box W4_0 (w4.heap.size) (VG) := hW4_0.box
  have hB5 : Below w.heap.size w W4_0 := below_thru hB4 hN
  have hs5 := hB5.size
  have x_f5 : Box W4_0 (w.heap.size) (V) := Box.below x_f4 hN
  clear hB4 hs4 x_f4
  clear hN hW4_0
  go_wp2_with (first
    | (refine wpList_load_box9 rfl _ _ rfl x_h5 rfl Try.underlying43 rfl SG.out ?_)
    | (refine wpList_load_box9 rfl _ _ rfl x_f5 rfl Try.underlying43 rfl SV.out ?_))
  refine (alive9_is _).mono ?_
  rintro e w6 ⟨rfl, hb⟩
  have hB6 : Below w.heap.size w w6 := below_thru hB5 hb
  have hs6 := hB6.size
  have x_f6 : Box w6 (w.heap.size) (V) := Box.below x_f5 hb
  have x_h6 : Box w6 (w4.heap.size) (VG) := Box.below x_h5 hb
  clear hB5 hs5 x_f5 x_h5
  clear hb
  go_wp2_with fail
  go_returns
  exact ⟨rfl, hB6⟩

set_option maxRecDepth 100000 in
set_option maxHeartbeats 1600000 in
theorem ch9_no (f : Frm) (hA : ¬ f.Ok) {at0 by0 : Int} (w : World) : Calls Try.prog 8 #[.agg (mcell f).toArray, .int .i64 at0, .int .u8 by0] w fun e w' => e = .returned (.bool true) ∧ Below w.heap.size w w' := by
  have SV := Lib.hid (size_frm f)
  have WF := fun W => wr_is f (xs := []) (q := 8) (Or.inr ⟨rfl, hA, rfl⟩) W
  obtain ⟨V, hV⟩ : ∃ V, mcell f = V := ⟨_, rfl⟩
  rw [hV] at SV WF ⊢
  clear hV hA
  go_enter Try.func8, Try.ntmps8
  go_upto_region 1 with fail
  refine F_gen (F := fun W => Code.wp _ _ _ _ W) (J := fun W => Box W (w.heap.size) (V) ∧ Below w.heap.size w W) (And.intro (Box.newc rfl rfl) (by go_grown)) ?_
  intro w0 ⟨e_f, hB0⟩
  have hs0 := hB0.size
  have x_f0 := e_f; clear e_f
  go_wp2_with (refine wpList_load_box9 rfl _ _ rfl x_f0 rfl Try.underlying43 rfl SV.out ?_)
  refine (WF _).mono ?_
  rintro e w1 ⟨va, rfl, hoa, hb⟩
  clear WF hoa
  have hB1 : Below w.heap.size w w1 := below_thru hB0 hb
  have hs1 := hB1.size
  have x_f1 : Box w1 (w.heap.size) (V) := Box.below x_f0 hb
  clear hB0 hs0 x_f0
  clear hb
  go_wp2_with fail
  refine (alive9_is _).mono ?_
  rintro e w2 ⟨rfl, hb⟩
  have hB2 : Below w.heap.size w w2 := below_thru hB1 hb
  have hs2 := hB2.size
  have x_f2 : Box w2 (w.heap.size) (V) := Box.below x_f1 hb
  clear hB1 hs1 x_f1
  clear hb
  go_wp2_with fail
  go_returns
  exact ⟨rfl, hB2⟩

theorem ch9_go {f : Frm} (hA : f.Ok) {m : Nat} {by0 : Int} (hm : m < f.bs.length) (hby : 0 ≤ by0 ∧ by0 ≤ 255) (hb0 : by0 ≠ 0) : ∃ (YS : List Int) (H : Frm) (q : Int), f.bs.set m (bits .xor .u8 (nth f.bs m) by0) = YS ∧ Parses 12 YS H q ∧ ((q = 12 ∧ H = Frm.zero) ∨ (q = 0 ∧ H ≠ f)) := by
  have _ := hA
  have hyb := f.bs_byts (nth f.bs m) (nth_mem hm)
  obtain ⟨n1, n2, n3⟩ := xor_ne9 hyb hby hb0
  have hY : Byts (f.bs.set m (bits .xor .u8 (nth f.bs m) by0)) := fun x hx => by
    rcases List.mem_or_eq_of_mem_set hx with q | q
    · exact f.bs_byts x q
    · rw [q]; exact ⟨n2, n3⟩
  obtain ⟨H, q, hp, PC⟩ := parse_is _ hY
  refine ⟨_, H, q, rfl, PC, ?_⟩
  rcases hp with ⟨h1, h2, h3⟩ | ⟨h1, h2, _⟩
  · refine Or.inr ⟨h1, fun e => ?_⟩
    rw [e] at h3
    exact set_ne9 hm n1 h3.symm
  · exact Or.inl ⟨h1, h2⟩
theorem changed9_is (f : Frm) (at0 by0 : Int) (w : World) (hby : 0 ≤ by0 ∧ by0 ≤ 255) : Calls Try.prog 8 #[.agg (mcell f).toArray, .int .i64 at0, .int .u8 by0] w fun e w' => e = .returned (.bool true) ∧ Below w.heap.size w w' := by
  by_cases hA : f.Ok
  · rcases seen_of hA with ⟨T, hs⟩ | ⟨T, hs⟩
    · by_cases h1 : at0 < 0
      · exact ch9_r1_1 f hA hs (decide_eq_true h1) w
      by_cases h2 : 59 ≤ at0
      · exact ch9_r2_1 f hA hs (decide_eq_false h1) (decide_eq_true h2) w
      by_cases h3 : by0 = 0
      · rw [h3]
        exact ch9_r3_1 f hA hs (decide_eq_false h1) (decide_eq_false h2) w
      obtain ⟨m, rfl⟩ : ∃ m : Nat, at0 = (m : Int) := ⟨at0.toNat, by omega⟩
      obtain ⟨YS, H, q, hys, PC, hq⟩ := ch9_go (f := f) (m := m) hA (by rw [hs.l]; omega) hby h3
      rcases hq with ⟨rfl, rfl⟩ | ⟨rfl, hne⟩
      · exact ch9_g12_1 f hA hs (by omega) hby h3 hys PC w
      · exact ch9_g0_1 f hA hs (by omega) hby h3 H hne hys PC w
    · by_cases h1 : at0 < 0
      · exact ch9_r1_2 f hA hs (decide_eq_true h1) w
      by_cases h2 : 88 ≤ at0
      · exact ch9_r2_2 f hA hs (decide_eq_false h1) (decide_eq_true h2) w
      by_cases h3 : by0 = 0
      · rw [h3]
        exact ch9_r3_2 f hA hs (decide_eq_false h1) (decide_eq_false h2) w
      obtain ⟨m, rfl⟩ : ∃ m : Nat, at0 = (m : Int) := ⟨at0.toNat, by omega⟩
      obtain ⟨YS, H, q, hys, PC, hq⟩ := ch9_go (f := f) (m := m) hA (by rw [hs.l]; omega) hby h3
      rcases hq with ⟨rfl, rfl⟩ | ⟨rfl, hne⟩
      · exact ch9_g12_2 f hA hs (by omega) hby h3 hys PC w
      · exact ch9_g0_2 f hA hs (by omega) hby h3 H hne hys PC w
  · exact ch9_no f hA w

end Go.Proofs.Ytkpdlbcmnfphmaa
