/-
  Layer 15's statements, walked: LruTwice, LruRemoves.
-/
import Derived.Test.YtjhlpkkefdohjaaLrK
namespace Go.Proofs.Ytjhlpkkefdohjaa
open Go.RowKit

theorem woO_cons (l : List Nat) (i : Nat) : woO (i :: woO l i) i = woO l i := by
  unfold woO
  rw [List.filter_cons_of_neg (by simp), List.filter_filter]
  congr 1
  funext j
  simp
theorem VO.ofn {O : Od} {l : List Nat} (h : VO O l) {n : Nat} (hn : O.pv.length = n) : O = ofL n l := by rw [← hn]; exact h.eq
theorem head_touch {l : List Nat} {i : Nat} (hn : l.Nodup) (h : hdO l = (i : Int)) : i :: woO l i = l := by
  cases l with
  | nil =>
    have h : (-1 : Int) = i := h
    omega
  | cons j l =>
    have h : (j : Int) = i := h
    obtain rfl : j = i := by omega
    have := woO_mid (a := []) (b := l) (i := j) hn
    rw [show ([] : List Nat) ++ j :: l = j :: l from rfl] at this
    rw [this]
    rfl
theorem LiO.of {n : Nat} {l : List Nat} (h : VO (ofL n l) l) : LiO (ofL n l) l 0 := Or.inr ⟨rfl, h⟩
theorem RmO.no {O : Od} {l : List Nat} (h : VO O l) {i : Nat} (hi : i < O.pv.length) (hil : i ∉ l) : RmO O i Od.zero 6 := Or.inr ⟨l, h, Or.inr ⟨i, rfl, hi, Or.inl ⟨rfl, hil, rfl⟩⟩⟩
theorem RmO.yes {O : Od} {l : List Nat} (h : VO O l) {i : Nat} (hil : i ∈ l) : RmO O i (ofL O.pv.length (woO l i)) 0 := Or.inr ⟨l, h, Or.inr ⟨i, rfl, h.lt i hil, Or.inr ⟨rfl, hil, rfl⟩⟩⟩

set_option maxRecDepth 100000 in
set_option maxHeartbeats 6400000 in
theorem twice15_a {v : Value} {O : Od} {p : Int} (hg : GrO O) (w : World) (h1 : IsO w v O) : Calls Try.prog 6 #[v, .int .i64 p] w fun e w' => e = .returned (.bool true) ∧ Below w.heap.size w w' := by
  have GR := fun (W : World) (u : Value) (hu9 : IsO W u O) => rlgreat_is (b := true) W hu9 ⟨fun _ => hg, fun _ => rfl⟩
  have AL := fun W => alive15_is W
  clear hg
  have HO := Lib.hid h1
  obtain ⟨v1, v2, rfl, g1, g2⟩ := id h1
  obtain ⟨a1, c1, rfl, hr1⟩ := id g1; obtain ⟨a2, c2, rfl, hr2⟩ := id g2
  have m1 := hr1.most; have r1 := hr1.room; have m2 := hr2.most; have r2 := hr2.room; have H1 := Lib.hid g1; have H2 := Lib.hid g2
  clear hr1 hr2 g1 g2 h1
  have SA := Lib.hid (size_od (.slice a1 O.pv.length c1) (.slice a2 O.nx.length c2) (.int .i64 O.hd) (.int .i64 O.tl))
  go_enter Try.func6, Try.ntmps6
  go_upto_region 1 with fail
  refine F_gen (F := fun W => Code.wp _ _ _ _ W) (J := fun W => Box W (w.heap.size) ([.slice a1 O.pv.length c1, .slice a2 O.nx.length c2, .int .i64 O.hd, .int .i64 O.tl]) ∧ Below w.heap.size w W) (And.intro (Box.newc rfl rfl) (by go_grown)) ?_
  intro w0 ⟨e_a, hB0⟩
  have hs0 := hB0.size
  have x_a0 := e_a; clear e_a
  go_wp2_with fail
  refine (AL _).mono ?_
  rintro e w1 ⟨rfl, hb⟩
  have hB1 : Below w.heap.size w w1 := below_thru hB0 hb
  have hs1 := hB1.size
  have x_a1 : Box w1 (w.heap.size) ([.slice a1 O.pv.length c1, .slice a2 O.nx.length c2, .int .i64 O.hd, .int .i64 O.tl]) := Box.below x_a0 hb
  clear hB0 hs0 x_a0
  clear hb
  go_wp2_with (refine wpList_load_box9 rfl _ _ rfl x_a1 rfl Try.underlying24 rfl SA.out ?_)
  refine (GR _ _ (HO.out.below hB1)).mono ?_
  rintro e w2 ⟨rfl, hb⟩
  have hB2 : Below w.heap.size w w2 := below_thru hB1 hb
  have hs2 := hB2.size
  have x_a2 : Box w2 (w.heap.size) ([.slice a1 O.pv.length c1, .slice a2 O.nx.length c2, .int .i64 O.hd, .int .i64 O.tl]) := Box.below x_a1 hb
  clear hB1 hs1 x_a1
  clear hb
  go_wp2_with fail
  go_returns
  exact ⟨rfl, hB2⟩

set_option maxRecDepth 100000 in
set_option maxHeartbeats 6400000 in
theorem twice15_b {v : Value} {O : Od} {p : Int} {q : Int} (hg : ¬ GrO O) (hp : PlO O p q) (hq : q ≠ 0) (w : World) (h1 : IsO w v O) : Calls Try.prog 6 #[v, .int .i64 p] w fun e w' => e = .returned (.bool true) ∧ Below w.heap.size w w' := by
  have GR := fun (W : World) (u : Value) (hu9 : IsO W u O) => rlgreat_is (b := false) W hu9 ⟨fun h => (Bool.false_ne_true h).elim, fun h => absurd h hg⟩
  have AL := fun W => alive15_is W
  have PL := fun (W : World) (u : Value) (hu9 : IsO W u O) => rlplace_is hp W hu9
  have d0 : (q != 0) = true := by rw [bne_iff_ne]; exact hq
  clear hg hp hq
  have HO := Lib.hid h1
  obtain ⟨v1, v2, rfl, g1, g2⟩ := id h1
  obtain ⟨a1, c1, rfl, hr1⟩ := id g1; obtain ⟨a2, c2, rfl, hr2⟩ := id g2
  have m1 := hr1.most; have r1 := hr1.room; have m2 := hr2.most; have r2 := hr2.room; have H1 := Lib.hid g1; have H2 := Lib.hid g2
  clear hr1 hr2 g1 g2 h1
  have SA := Lib.hid (size_od (.slice a1 O.pv.length c1) (.slice a2 O.nx.length c2) (.int .i64 O.hd) (.int .i64 O.tl))
  go_enter Try.func6, Try.ntmps6
  go_upto_region 1 with fail
  refine F_gen (F := fun W => Code.wp _ _ _ _ W) (J := fun W => Box W (w.heap.size) ([.slice a1 O.pv.length c1, .slice a2 O.nx.length c2, .int .i64 O.hd, .int .i64 O.tl]) ∧ Below w.heap.size w W) (And.intro (Box.newc rfl rfl) (by go_grown)) ?_
  intro w0 ⟨e_a, hB0⟩
  have hs0 := hB0.size
  have x_a0 := e_a; clear e_a
  go_wp2_with fail
  refine (AL _).mono ?_
  rintro e w1 ⟨rfl, hb⟩
  have hB1 : Below w.heap.size w w1 := below_thru hB0 hb
  have hs1 := hB1.size
  have x_a1 : Box w1 (w.heap.size) ([.slice a1 O.pv.length c1, .slice a2 O.nx.length c2, .int .i64 O.hd, .int .i64 O.tl]) := Box.below x_a0 hb
  clear hB0 hs0 x_a0
  clear hb
  go_wp2_with (refine wpList_load_box9 rfl _ _ rfl x_a1 rfl Try.underlying24 rfl SA.out ?_)
  refine (GR _ _ (HO.out.below hB1)).mono ?_
  rintro e w2 ⟨rfl, hb⟩
  have hB2 : Below w.heap.size w w2 := below_thru hB1 hb
  have hs2 := hB2.size
  have x_a2 : Box w2 (w.heap.size) ([.slice a1 O.pv.length c1, .slice a2 O.nx.length c2, .int .i64 O.hd, .int .i64 O.tl]) := Box.below x_a1 hb
  clear hB1 hs1 x_a1
  clear hb
  go_wp2_with (refine wpList_load_box9 rfl _ _ rfl x_a2 rfl Try.underlying24 rfl SA.out ?_)
  refine (PL _ _ (HO.out.below hB2)).mono ?_
  rintro e w3 ⟨rfl, hb⟩
  have hB3 : Below w.heap.size w w3 := below_thru hB2 hb
  have hs3 := hB3.size
  have x_a3 : Box w3 (w.heap.size) ([.slice a1 O.pv.length c1, .slice a2 O.nx.length c2, .int .i64 O.hd, .int .i64 O.tl]) := Box.below x_a2 hb
  clear hB2 hs2 x_a2
  clear hb
  go_wp2_with fail
  go_returns
  exact ⟨rfl, hB3⟩

set_option maxRecDepth 100000 in
set_option maxHeartbeats 6400000 in
theorem twice15_c {v : Value} {O : Od} {l : List Nat} {i : Nat} (hg : ¬ GrO O) (hV : VO O l) (hi : i < O.pv.length) (hil : i ∈ l) (hh : hdO l = (i : Int)) (w : World) (h1 : IsO w v O) : Calls Try.prog 6 #[v, .int .i64 (i : Int)] w fun e w' => e = .returned (.bool true) ∧ Below w.heap.size w w' := by
  have GR := fun (W : World) (u : Value) (hu9 : IsO W u O) => rlgreat_is (b := false) W hu9 ⟨fun h => (Bool.false_ne_true h).elim, fun h => absurd h hg⟩
  have AL := fun W => alive15_is W
  have PL := fun (W : World) (u : Value) (hu9 : IsO W u O) => rlplace_is (p := (i : Int)) (q := 0) (Or.inr ⟨l, hV, Or.inr ⟨rfl, by omega, by omega⟩⟩) W hu9
  have HA : VO (ofL O.pv.length (i :: woO l i)) (i :: woO l i) := hV.touch hi
  have t1 : TcO O i (ofL O.pv.length (i :: woO l i)) 0 := TcO.of hV hi
  have t2 : TcO (ofL O.pv.length (i :: woO l i)) i (ofL O.pv.length (i :: woO l i)) 0 := by
    have h := TcO.of HA (i := i) (by rw [ofL_pv]; exact hi)
    rw [ofL_pv, woO_cons] at h
    exact h
  have t3 : RmO (ofL O.pv.length (i :: woO l i)) i (ofL O.pv.length (woO l i)) 0 := by
    have h := RmO.yes HA (i := i) List.mem_cons_self
    rw [ofL_pv, woO_cons] at h
    exact h
  have t4 : RmO O i (ofL O.pv.length (woO l i)) 0 := RmO.yes hV hil
  have e1 : (ofL O.pv.length (i :: woO l i)).hd = (i : Int) := rfl
  have e2 : ofL O.pv.length (i :: woO l i) = O := by rw [head_touch hV.nodup hh]; exact hV.eq.symm
  have e4 : O.hd = hdO l := hV.hd; rw [← e4] at hh
  obtain ⟨AA, hA⟩ : ∃ A, ofL O.pv.length (i :: woO l i) = A := ⟨_, rfl⟩; obtain ⟨CC, hC⟩ : ∃ A, ofL O.pv.length (woO l i) = A := ⟨_, rfl⟩; rw [hA] at t1 t2 t3 e1 e2; rw [hC] at t3 t4; clear hA hC HA e4
  have T1 := fun (W : World) (u : Value) (h : IsO W u O) => pltouch_is t1 W h; have T2 := fun (W : World) (u : Value) (h : IsO W u AA) => pltouch_is t2 W h; have R3 := fun (W : World) (u : Value) (h : IsO W u AA) => plremove_is t3 W h; have R4 := fun (W : World) (u : Value) (h : IsO W u O) => plremove_is t4 W h
  have SM := fun (X : Od) (W : World) (u v : Value) (h : IsO W u X) (g : IsO W v X) => rlsame_is (same_o X) W h g; have E1 := Lib.hid e1
  have d1 : ((i : Int) != (i : Int)) = false := bne_self_eq_false _; have d2 : (O.hd == (i : Int)) = true := beq_iff_eq.2 hh
  have E2 := Lib.hid e2; clear e2
  clear hg hV hi hil hh t1 t2 t3 t4 e1
  have HO := Lib.hid h1
  obtain ⟨v1, v2, rfl, g1, g2⟩ := id h1
  obtain ⟨a1, c1, rfl, hr1⟩ := id g1; obtain ⟨a2, c2, rfl, hr2⟩ := id g2
  have m1 := hr1.most; have r1 := hr1.room; have m2 := hr2.most; have r2 := hr2.room; have H1 := Lib.hid g1; have H2 := Lib.hid g2
  clear hr1 hr2 g1 g2 h1
  have SA := Lib.hid (size_od (.slice a1 O.pv.length c1) (.slice a2 O.nx.length c2) (.int .i64 O.hd) (.int .i64 O.tl))
  go_enter Try.func6, Try.ntmps6
  go_upto_region 1 with fail
  refine F_gen (F := fun W => Code.wp _ _ _ _ W) (J := fun W => Box W (w.heap.size) ([.slice a1 O.pv.length c1, .slice a2 O.nx.length c2, .int .i64 O.hd, .int .i64 O.tl]) ∧ Below w.heap.size w W) (And.intro (Box.newc rfl rfl) (by go_grown)) ?_
  intro w0 ⟨e_a, hB0⟩
  have hs0 := hB0.size
  have x_a0 := e_a; clear e_a
  go_wp2_with fail
  refine (AL _).mono ?_
  rintro e w1 ⟨rfl, hb⟩
  have hB1 : Below w.heap.size w w1 := below_thru hB0 hb
  have hs1 := hB1.size
  have x_a1 : Box w1 (w.heap.size) ([.slice a1 O.pv.length c1, .slice a2 O.nx.length c2, .int .i64 O.hd, .int .i64 O.tl]) := Box.below x_a0 hb
  clear hB0 hs0 x_a0
  clear hb
  go_wp2_with (refine wpList_load_box9 rfl _ _ rfl x_a1 rfl Try.underlying24 rfl SA.out ?_)
  refine (GR _ _ (HO.out.below hB1)).mono ?_
  rintro e w2 ⟨rfl, hb⟩
  have hB2 : Below w.heap.size w w2 := below_thru hB1 hb
  have hs2 := hB2.size
  have x_a2 : Box w2 (w.heap.size) ([.slice a1 O.pv.length c1, .slice a2 O.nx.length c2, .int .i64 O.hd, .int .i64 O.tl]) := Box.below x_a1 hb
  clear hB1 hs1 x_a1
  clear hb
  go_wp2_with (refine wpList_load_box9 rfl _ _ rfl x_a2 rfl Try.underlying24 rfl SA.out ?_)
  refine (PL _ _ (HO.out.below hB2)).mono ?_
  rintro e w3 ⟨rfl, hb⟩
  have hB3 : Below w.heap.size w w3 := below_thru hB2 hb
  have hs3 := hB3.size
  have x_a3 : Box w3 (w.heap.size) ([.slice a1 O.pv.length c1, .slice a2 O.nx.length c2, .int .i64 O.hd, .int .i64 O.tl]) := Box.below x_a2 hb
  clear hB2 hs2 x_a2
  clear hb
  go_wp2_with (refine wpList_load_box9 rfl _ _ rfl x_a3 rfl Try.underlying24 rfl SA.out ?_)
  refine (T1 _ _ (HO.out.below hB3)).mono ?_
  rintro e w4 ⟨vx, rfl, hI, hF, hb⟩
  obtain ⟨xx, yx, rfl, rx, ry⟩ := id hI; obtain ⟨px, cx, rfl, hrx⟩ := id rx; obtain ⟨qx, dx, rfl, hry⟩ := id ry; clear hrx hry rx ry hF
  have hB4 : Below w.heap.size w w4 := below_thru hB3 hb
  have hs4 := hB4.size
  have x_a4 : Box w4 (w.heap.size) ([.slice a1 O.pv.length c1, .slice a2 O.nx.length c2, .int .i64 O.hd, .int .i64 O.tl]) := Box.below x_a3 hb
  clear hB3 hs3 x_a3
  clear hb
  have K_w4_4 : Below w4.heap.size w4 w4 := Below.refl _ _
  have Ix : Hid (IsO w4 (.agg [.slice px AA.pv.length cx, .slice qx AA.nx.length dx, .int .i64 AA.hd, .int .i64 AA.tl].toArray) AA) := Lib.hid hI; clear hI
  have d_x_a := (x_a4).lt
  have d_x_0 := hs4
  go_upto_region 5 with (refine wpList_store_box (cs := [.slice px AA.pv.length cx, .slice qx AA.nx.length dx, .int .i64 AA.hd, .int .i64 AA.tl]) rfl _ _ _ rfl (Box.newc (l := od0) rfl rfl) rfl rfl (size_od _ _ _ _) rfl (one_od _ _ _ _ _ _ _ _) ?_; intro W4_0 hW4_0)
  have hN : Below w4.heap.size w4 W4_0 := (hW4_0.below _ _ (by omega) ((Below.refl _ w4).alloc (Nat.le_refl _) _))
  have x_x5 : Box W4_0 (w4.heap.size) ([.slice px AA.pv.length cx, .slice qx AA.nx.length dx, .int .i64 AA.hd, .int .i64 AA.tl]) := hW4_0.box
  have K_w4_5 : Below w4.heap.size w4 W4_0 := below_thru K_w4_4 hN
  clear K_w4_4
  have hB5 : Below w.heap.size w W4_0 := below_thru hB4 hN
  have hs5 := hB5.size
  have x_a5 : Box W4_0 (w.heap.size) ([.slice a1 O.pv.length c1, .slice a2 O.nx.length c2, .int .i64 O.hd, .int .i64 O.tl]) := Box.below x_a4 hN
  clear hB4 hs4 x_a4
  clear hN hW4_0
  go_wp2_with (refine wpList_load_box9 rfl _ _ rfl x_x5 rfl Try.underlying24 rfl (size_od _ _ _ _) ?_)
  refine (T2 _ _ (Ix.out.below K_w4_5)).mono ?_
  rintro e w6 ⟨vy, rfl, hI, hF, hb⟩
  obtain ⟨xy, yy, rfl, rx, ry⟩ := id hI; obtain ⟨py, cy, rfl, hrx⟩ := id rx; obtain ⟨qy, dy, rfl, hry⟩ := id ry; clear hrx hry rx ry hF
  have K_w4_6 : Below w4.heap.size w4 w6 := below_thru K_w4_5 hb
  clear K_w4_5
  have hB6 : Below w.heap.size w w6 := below_thru hB5 hb
  have hs6 := hB6.size
  have x_a6 : Box w6 (w.heap.size) ([.slice a1 O.pv.length c1, .slice a2 O.nx.length c2, .int .i64 O.hd, .int .i64 O.tl]) := Box.below x_a5 hb
  have x_x6 : Box w6 (w4.heap.size) ([.slice px AA.pv.length cx, .slice qx AA.nx.length dx, .int .i64 AA.hd, .int .i64 AA.tl]) := Box.below x_x5 hb
  clear hB5 hs5 x_a5 x_x5
  clear hb
  have K_w6_6 : Below w6.heap.size w6 w6 := Below.refl _ _
  have Iy : Hid (IsO w6 (.agg [.slice py AA.pv.length cy, .slice qy AA.nx.length dy, .int .i64 AA.hd, .int .i64 AA.tl].toArray) AA) := Lib.hid hI; clear hI
  have d_y_a := (x_a6).lt
  have d_y_x := (x_x6).lt
  have d_y_0 := hs6
  go_upto_region 6 with (refine wpList_store_box (cs := [.slice py AA.pv.length cy, .slice qy AA.nx.length dy, .int .i64 AA.hd, .int .i64 AA.tl]) rfl _ _ _ rfl (Box.newc (l := od0) rfl rfl) rfl rfl (size_od _ _ _ _) rfl (one_od _ _ _ _ _ _ _ _) ?_; intro W6_0 hW6_0)
  have hN : Below w6.heap.size w6 W6_0 := (hW6_0.below _ _ (by omega) ((Below.refl _ w6).alloc (Nat.le_refl _) _))
  have x_y7 : Box W6_0 (w6.heap.size) ([.slice py AA.pv.length cy, .slice qy AA.nx.length dy, .int .i64 AA.hd, .int .i64 AA.tl]) := hW6_0.box
  have K_w4_7 : Below w4.heap.size w4 W6_0 := below_thru K_w4_6 hN
  have K_w6_7 : Below w6.heap.size w6 W6_0 := below_thru K_w6_6 hN
  clear K_w4_6 K_w6_6
  have hB7 : Below w.heap.size w W6_0 := below_thru hB6 hN
  have hs7 := hB7.size
  have x_a7 : Box W6_0 (w.heap.size) ([.slice a1 O.pv.length c1, .slice a2 O.nx.length c2, .int .i64 O.hd, .int .i64 O.tl]) := Box.below x_a6 hN
  have x_x7 : Box W6_0 (w4.heap.size) ([.slice px AA.pv.length cx, .slice qx AA.nx.length dx, .int .i64 AA.hd, .int .i64 AA.tl]) := Box.below x_x6 hN
  clear hB6 hs6 x_a6 x_x6
  clear hN hW6_0
  go_wp2_with (refine wpList_load_box9 rfl _ _ rfl x_x7 rfl Try.underlying24 rfl (size_od _ _ _ _) ?_)
  refine (R3 _ _ (Ix.out.below K_w4_7)).mono ?_
  rintro e w8 ⟨vz, rfl, hI, hF, hb⟩
  obtain ⟨xz, yz, rfl, rx, ry⟩ := id hI; obtain ⟨pz, cz, rfl, hrx⟩ := id rx; obtain ⟨qz, dz, rfl, hry⟩ := id ry; clear hrx hry rx ry hF
  have K_w4_8 : Below w4.heap.size w4 w8 := below_thru K_w4_7 hb
  have K_w6_8 : Below w6.heap.size w6 w8 := below_thru K_w6_7 hb
  clear K_w4_7 K_w6_7
  have hB8 : Below w.heap.size w w8 := below_thru hB7 hb
  have hs8 := hB8.size
  have x_a8 : Box w8 (w.heap.size) ([.slice a1 O.pv.length c1, .slice a2 O.nx.length c2, .int .i64 O.hd, .int .i64 O.tl]) := Box.below x_a7 hb
  have x_x8 : Box w8 (w4.heap.size) ([.slice px AA.pv.length cx, .slice qx AA.nx.length dx, .int .i64 AA.hd, .int .i64 AA.tl]) := Box.below x_x7 hb
  have x_y8 : Box w8 (w6.heap.size) ([.slice py AA.pv.length cy, .slice qy AA.nx.length dy, .int .i64 AA.hd, .int .i64 AA.tl]) := Box.below x_y7 hb
  clear hB7 hs7 x_a7 x_x7 x_y7
  clear hb
  have K_w8_8 : Below w8.heap.size w8 w8 := Below.refl _ _
  have Iz : Hid (IsO w8 (.agg [.slice pz CC.pv.length cz, .slice qz CC.nx.length dz, .int .i64 CC.hd, .int .i64 CC.tl].toArray) CC) := Lib.hid hI; clear hI
  have d_z_a := (x_a8).lt
  have d_z_x := (x_x8).lt
  have d_z_y := (x_y8).lt
  have d_z_0 := hs8
  go_upto_region 7 with (refine wpList_store_box (cs := [.slice pz CC.pv.length cz, .slice qz CC.nx.length dz, .int .i64 CC.hd, .int .i64 CC.tl]) rfl _ _ _ rfl (Box.newc (l := od0) rfl rfl) rfl rfl (size_od _ _ _ _) rfl (one_od _ _ _ _ _ _ _ _) ?_; intro W8_0 hW8_0)
  have hN : Below w8.heap.size w8 W8_0 := (hW8_0.below _ _ (by omega) ((Below.refl _ w8).alloc (Nat.le_refl _) _))
  have x_z9 : Box W8_0 (w8.heap.size) ([.slice pz CC.pv.length cz, .slice qz CC.nx.length dz, .int .i64 CC.hd, .int .i64 CC.tl]) := hW8_0.box
  have K_w4_9 : Below w4.heap.size w4 W8_0 := below_thru K_w4_8 hN
  have K_w6_9 : Below w6.heap.size w6 W8_0 := below_thru K_w6_8 hN
  have K_w8_9 : Below w8.heap.size w8 W8_0 := below_thru K_w8_8 hN
  clear K_w4_8 K_w6_8 K_w8_8
  have hB9 : Below w.heap.size w W8_0 := below_thru hB8 hN
  have hs9 := hB9.size
  have x_a9 : Box W8_0 (w.heap.size) ([.slice a1 O.pv.length c1, .slice a2 O.nx.length c2, .int .i64 O.hd, .int .i64 O.tl]) := Box.below x_a8 hN
  have x_x9 : Box W8_0 (w4.heap.size) ([.slice px AA.pv.length cx, .slice qx AA.nx.length dx, .int .i64 AA.hd, .int .i64 AA.tl]) := Box.below x_x8 hN
  have x_y9 : Box W8_0 (w6.heap.size) ([.slice py AA.pv.length cy, .slice qy AA.nx.length dy, .int .i64 AA.hd, .int .i64 AA.tl]) := Box.below x_y8 hN
  clear hB8 hs8 x_a8 x_x8 x_y8
  clear hN hW8_0
  go_wp2_with (refine wpList_load_box9 rfl _ _ rfl x_a9 rfl Try.underlying24 rfl SA.out ?_)
  refine (R4 _ _ (HO.out.below hB9)).mono ?_
  rintro e w10 ⟨vu, rfl, hI, hF, hb⟩
  obtain ⟨xu, yu, rfl, rx, ry⟩ := id hI; obtain ⟨pu, cu, rfl, hrx⟩ := id rx; obtain ⟨qu, du, rfl, hry⟩ := id ry; clear hrx hry rx ry hF
  have K_w4_10 : Below w4.heap.size w4 w10 := below_thru K_w4_9 hb
  have K_w6_10 : Below w6.heap.size w6 w10 := below_thru K_w6_9 hb
  have K_w8_10 : Below w8.heap.size w8 w10 := below_thru K_w8_9 hb
  clear K_w4_9 K_w6_9 K_w8_9
  have hB10 : Below w.heap.size w w10 := below_thru hB9 hb
  have hs10 := hB10.size
  have x_a10 : Box w10 (w.heap.size) ([.slice a1 O.pv.length c1, .slice a2 O.nx.length c2, .int .i64 O.hd, .int .i64 O.tl]) := Box.below x_a9 hb
  have x_x10 : Box w10 (w4.heap.size) ([.slice px AA.pv.length cx, .slice qx AA.nx.length dx, .int .i64 AA.hd, .int .i64 AA.tl]) := Box.below x_x9 hb
  have x_y10 : Box w10 (w6.heap.size) ([.slice py AA.pv.length cy, .slice qy AA.nx.length dy, .int .i64 AA.hd, .int .i64 AA.tl]) := Box.below x_y9 hb
  have x_z10 : Box w10 (w8.heap.size) ([.slice pz CC.pv.length cz, .slice qz CC.nx.length dz, .int .i64 CC.hd, .int .i64 CC.tl]) := Box.below x_z9 hb
  clear hB9 hs9 x_a9 x_x9 x_y9 x_z9
  clear hb
  have K_w10_10 : Below w10.heap.size w10 w10 := Below.refl _ _
  have Iu : Hid (IsO w10 (.agg [.slice pu CC.pv.length cu, .slice qu CC.nx.length du, .int .i64 CC.hd, .int .i64 CC.tl].toArray) CC) := Lib.hid hI; clear hI
  have d_u_a := (x_a10).lt
  have d_u_x := (x_x10).lt
  have d_u_y := (x_y10).lt
  have d_u_z := (x_z10).lt
  have d_u_0 := hs10
  go_upto_region 8 with (refine wpList_store_box (cs := [.slice pu CC.pv.length cu, .slice qu CC.nx.length du, .int .i64 CC.hd, .int .i64 CC.tl]) rfl _ _ _ rfl (Box.newc (l := od0) rfl rfl) rfl rfl (size_od _ _ _ _) rfl (one_od _ _ _ _ _ _ _ _) ?_; intro W10_0 hW10_0)
  have hN : Below w10.heap.size w10 W10_0 := (hW10_0.below _ _ (by omega) ((Below.refl _ w10).alloc (Nat.le_refl _) _))
  have x_u11 : Box W10_0 (w10.heap.size) ([.slice pu CC.pv.length cu, .slice qu CC.nx.length du, .int .i64 CC.hd, .int .i64 CC.tl]) := hW10_0.box
  have K_w4_11 : Below w4.heap.size w4 W10_0 := below_thru K_w4_10 hN
  have K_w6_11 : Below w6.heap.size w6 W10_0 := below_thru K_w6_10 hN
  have K_w8_11 : Below w8.heap.size w8 W10_0 := below_thru K_w8_10 hN
  have K_w10_11 : Below w10.heap.size w10 W10_0 := below_thru K_w10_10 hN
  clear K_w4_10 K_w6_10 K_w8_10 K_w10_10
  have hB11 : Below w.heap.size w W10_0 := below_thru hB10 hN
  have hs11 := hB11.size
  have x_a11 : Box W10_0 (w.heap.size) ([.slice a1 O.pv.length c1, .slice a2 O.nx.length c2, .int .i64 O.hd, .int .i64 O.tl]) := Box.below x_a10 hN
  have x_x11 : Box W10_0 (w4.heap.size) ([.slice px AA.pv.length cx, .slice qx AA.nx.length dx, .int .i64 AA.hd, .int .i64 AA.tl]) := Box.below x_x10 hN
  have x_y11 : Box W10_0 (w6.heap.size) ([.slice py AA.pv.length cy, .slice qy AA.nx.length dy, .int .i64 AA.hd, .int .i64 AA.tl]) := Box.below x_y10 hN
  have x_z11 : Box W10_0 (w8.heap.size) ([.slice pz CC.pv.length cz, .slice qz CC.nx.length dz, .int .i64 CC.hd, .int .i64 CC.tl]) := Box.below x_z10 hN
  clear hB10 hs10 x_a10 x_x10 x_y10 x_z10
  clear hN hW10_0
  go_wp2_with (first
    | (refine wpList_load_box9 rfl _ _ rfl x_x11 rfl Try.underlying24 rfl (size_od _ _ _ _) ?_)
    | (refine wpList_load_box9 rfl _ _ rfl x_y11 rfl Try.underlying24 rfl (size_od _ _ _ _) ?_))
  refine (SM AA _ _ _ (Ix.out.below K_w4_11) (Iy.out.below K_w6_11)).mono ?_
  rintro e w12 ⟨rfl, hb⟩
  have K_w4_12 : Below w4.heap.size w4 w12 := below_thru K_w4_11 hb
  have K_w6_12 : Below w6.heap.size w6 w12 := below_thru K_w6_11 hb
  have K_w8_12 : Below w8.heap.size w8 w12 := below_thru K_w8_11 hb
  have K_w10_12 : Below w10.heap.size w10 w12 := below_thru K_w10_11 hb
  clear K_w4_11 K_w6_11 K_w8_11 K_w10_11
  have hB12 : Below w.heap.size w w12 := below_thru hB11 hb
  have hs12 := hB12.size
  have x_a12 : Box w12 (w.heap.size) ([.slice a1 O.pv.length c1, .slice a2 O.nx.length c2, .int .i64 O.hd, .int .i64 O.tl]) := Box.below x_a11 hb
  have x_x12 : Box w12 (w4.heap.size) ([.slice px AA.pv.length cx, .slice qx AA.nx.length dx, .int .i64 AA.hd, .int .i64 AA.tl]) := Box.below x_x11 hb
  have x_y12 : Box w12 (w6.heap.size) ([.slice py AA.pv.length cy, .slice qy AA.nx.length dy, .int .i64 AA.hd, .int .i64 AA.tl]) := Box.below x_y11 hb
  have x_z12 : Box w12 (w8.heap.size) ([.slice pz CC.pv.length cz, .slice qz CC.nx.length dz, .int .i64 CC.hd, .int .i64 CC.tl]) := Box.below x_z11 hb
  have x_u12 : Box w12 (w10.heap.size) ([.slice pu CC.pv.length cu, .slice qu CC.nx.length du, .int .i64 CC.hd, .int .i64 CC.tl]) := Box.below x_u11 hb
  clear hB11 hs11 x_a11 x_x11 x_y11 x_z11 x_u11
  clear hb
  clear K_w6_12
  clear x_y12
  have ch9 := (x_x12).c 2 _ rfl
  have zh9 := (x_x12).lt
  have ca9 := (x_a12).c 2 _ rfl
  have za9 := (x_a12).lt
  rw [E1.out] at ch9
  go_wp2_with (first
    | (refine wpList_load_box9 rfl _ _ rfl x_x12 rfl Try.underlying24 rfl (size_od _ _ _ _) ?_)
    | (refine wpList_load_box9 rfl _ _ rfl x_a12 rfl Try.underlying24 rfl SA.out ?_))
  refine (SM AA _ _ _ (Ix.out.below K_w4_12) (by rw [E2.out]; exact HO.out.below hB12)).mono ?_
  rintro e w13 ⟨rfl, hb⟩
  clear ch9 zh9 ca9 za9
  have K_w4_13 : Below w4.heap.size w4 w13 := below_thru K_w4_12 hb
  have K_w8_13 : Below w8.heap.size w8 w13 := below_thru K_w8_12 hb
  have K_w10_13 : Below w10.heap.size w10 w13 := below_thru K_w10_12 hb
  clear K_w4_12 K_w8_12 K_w10_12
  have hB13 : Below w.heap.size w w13 := below_thru hB12 hb
  have hs13 := hB13.size
  have x_a13 : Box w13 (w.heap.size) ([.slice a1 O.pv.length c1, .slice a2 O.nx.length c2, .int .i64 O.hd, .int .i64 O.tl]) := Box.below x_a12 hb
  have x_x13 : Box w13 (w4.heap.size) ([.slice px AA.pv.length cx, .slice qx AA.nx.length dx, .int .i64 AA.hd, .int .i64 AA.tl]) := Box.below x_x12 hb
  have x_z13 : Box w13 (w8.heap.size) ([.slice pz CC.pv.length cz, .slice qz CC.nx.length dz, .int .i64 CC.hd, .int .i64 CC.tl]) := Box.below x_z12 hb
  have x_u13 : Box w13 (w10.heap.size) ([.slice pu CC.pv.length cu, .slice qu CC.nx.length du, .int .i64 CC.hd, .int .i64 CC.tl]) := Box.below x_u12 hb
  clear hB12 hs12 x_a12 x_x12 x_z12 x_u12
  clear hb
  clear K_w4_13
  clear x_x13
  go_wp2_with (first
    | (refine wpList_load_box9 rfl _ _ rfl x_z13 rfl Try.underlying24 rfl (size_od _ _ _ _) ?_)
    | (refine wpList_load_box9 rfl _ _ rfl x_u13 rfl Try.underlying24 rfl (size_od _ _ _ _) ?_))
  refine (SM CC _ _ _ (Iz.out.below K_w8_13) (Iu.out.below K_w10_13)).mono ?_
  rintro e w14 ⟨rfl, hb⟩
  have K_w8_14 : Below w8.heap.size w8 w14 := below_thru K_w8_13 hb
  have K_w10_14 : Below w10.heap.size w10 w14 := below_thru K_w10_13 hb
  clear K_w8_13 K_w10_13
  have hB14 : Below w.heap.size w w14 := below_thru hB13 hb
  have hs14 := hB14.size
  have x_a14 : Box w14 (w.heap.size) ([.slice a1 O.pv.length c1, .slice a2 O.nx.length c2, .int .i64 O.hd, .int .i64 O.tl]) := Box.below x_a13 hb
  have x_z14 : Box w14 (w8.heap.size) ([.slice pz CC.pv.length cz, .slice qz CC.nx.length dz, .int .i64 CC.hd, .int .i64 CC.tl]) := Box.below x_z13 hb
  have x_u14 : Box w14 (w10.heap.size) ([.slice pu CC.pv.length cu, .slice qu CC.nx.length du, .int .i64 CC.hd, .int .i64 CC.tl]) := Box.below x_u13 hb
  clear hB13 hs13 x_a13 x_z13 x_u13
  clear hb
  go_wp2_with fail
  go_returns
  exact ⟨rfl, hB14⟩

set_option maxRecDepth 100000 in
set_option maxHeartbeats 6400000 in
theorem twice15_d {v : Value} {O : Od} {l : List Nat} {i : Nat} (hg : ¬ GrO O) (hV : VO O l) (hi : i < O.pv.length) (hil : i ∈ l) (hh : hdO l ≠ (i : Int)) (w : World) (h1 : IsO w v O) : Calls Try.prog 6 #[v, .int .i64 (i : Int)] w fun e w' => e = .returned (.bool true) ∧ Below w.heap.size w w' := by
  have GR := fun (W : World) (u : Value) (hu9 : IsO W u O) => rlgreat_is (b := false) W hu9 ⟨fun h => (Bool.false_ne_true h).elim, fun h => absurd h hg⟩
  have AL := fun W => alive15_is W
  have PL := fun (W : World) (u : Value) (hu9 : IsO W u O) => rlplace_is (p := (i : Int)) (q := 0) (Or.inr ⟨l, hV, Or.inr ⟨rfl, by omega, by omega⟩⟩) W hu9
  have HA : VO (ofL O.pv.length (i :: woO l i)) (i :: woO l i) := hV.touch hi
  have t1 : TcO O i (ofL O.pv.length (i :: woO l i)) 0 := TcO.of hV hi
  have t2 : TcO (ofL O.pv.length (i :: woO l i)) i (ofL O.pv.length (i :: woO l i)) 0 := by
    have h := TcO.of HA (i := i) (by rw [ofL_pv]; exact hi)
    rw [ofL_pv, woO_cons] at h
    exact h
  have t3 : RmO (ofL O.pv.length (i :: woO l i)) i (ofL O.pv.length (woO l i)) 0 := by
    have h := RmO.yes HA (i := i) List.mem_cons_self
    rw [ofL_pv, woO_cons] at h
    exact h
  have t4 : RmO O i (ofL O.pv.length (woO l i)) 0 := RmO.yes hV hil
  have e1 : (ofL O.pv.length (i :: woO l i)).hd = (i : Int) := rfl
  have e4 : O.hd = hdO l := hV.hd; rw [← e4] at hh
  obtain ⟨AA, hA⟩ : ∃ A, ofL O.pv.length (i :: woO l i) = A := ⟨_, rfl⟩; obtain ⟨CC, hC⟩ : ∃ A, ofL O.pv.length (woO l i) = A := ⟨_, rfl⟩; rw [hA] at t1 t2 t3 e1; rw [hC] at t3 t4; clear hA hC HA e4
  have T1 := fun (W : World) (u : Value) (h : IsO W u O) => pltouch_is t1 W h; have T2 := fun (W : World) (u : Value) (h : IsO W u AA) => pltouch_is t2 W h; have R3 := fun (W : World) (u : Value) (h : IsO W u AA) => plremove_is t3 W h; have R4 := fun (W : World) (u : Value) (h : IsO W u O) => plremove_is t4 W h
  have SM := fun (X : Od) (W : World) (u v : Value) (h : IsO W u X) (g : IsO W v X) => rlsame_is (same_o X) W h g; have E1 := Lib.hid e1
  have d1 : ((i : Int) != (i : Int)) = false := bne_self_eq_false _; have d2 : (O.hd == (i : Int)) = false := beq_eq_false_iff_ne.2 hh
  clear hg hV hi hil hh t1 t2 t3 t4 e1
  have HO := Lib.hid h1
  obtain ⟨v1, v2, rfl, g1, g2⟩ := id h1
  obtain ⟨a1, c1, rfl, hr1⟩ := id g1; obtain ⟨a2, c2, rfl, hr2⟩ := id g2
  have m1 := hr1.most; have r1 := hr1.room; have m2 := hr2.most; have r2 := hr2.room; have H1 := Lib.hid g1; have H2 := Lib.hid g2
  clear hr1 hr2 g1 g2 h1
  have SA := Lib.hid (size_od (.slice a1 O.pv.length c1) (.slice a2 O.nx.length c2) (.int .i64 O.hd) (.int .i64 O.tl))
  go_enter Try.func6, Try.ntmps6
  go_upto_region 1 with fail
  refine F_gen (F := fun W => Code.wp _ _ _ _ W) (J := fun W => Box W (w.heap.size) ([.slice a1 O.pv.length c1, .slice a2 O.nx.length c2, .int .i64 O.hd, .int .i64 O.tl]) ∧ Below w.heap.size w W) (And.intro (Box.newc rfl rfl) (by go_grown)) ?_
  intro w0 ⟨e_a, hB0⟩
  have hs0 := hB0.size
  have x_a0 := e_a; clear e_a
  go_wp2_with fail
  refine (AL _).mono ?_
  rintro e w1 ⟨rfl, hb⟩
  have hB1 : Below w.heap.size w w1 := below_thru hB0 hb
  have hs1 := hB1.size
  have x_a1 : Box w1 (w.heap.size) ([.slice a1 O.pv.length c1, .slice a2 O.nx.length c2, .int .i64 O.hd, .int .i64 O.tl]) := Box.below x_a0 hb
  clear hB0 hs0 x_a0
  clear hb
  go_wp2_with (refine wpList_load_box9 rfl _ _ rfl x_a1 rfl Try.underlying24 rfl SA.out ?_)
  refine (GR _ _ (HO.out.below hB1)).mono ?_
  rintro e w2 ⟨rfl, hb⟩
  have hB2 : Below w.heap.size w w2 := below_thru hB1 hb
  have hs2 := hB2.size
  have x_a2 : Box w2 (w.heap.size) ([.slice a1 O.pv.length c1, .slice a2 O.nx.length c2, .int .i64 O.hd, .int .i64 O.tl]) := Box.below x_a1 hb
  clear hB1 hs1 x_a1
  clear hb
  go_wp2_with (refine wpList_load_box9 rfl _ _ rfl x_a2 rfl Try.underlying24 rfl SA.out ?_)
  refine (PL _ _ (HO.out.below hB2)).mono ?_
  rintro e w3 ⟨rfl, hb⟩
  have hB3 : Below w.heap.size w w3 := below_thru hB2 hb
  have hs3 := hB3.size
  have x_a3 : Box w3 (w.heap.size) ([.slice a1 O.pv.length c1, .slice a2 O.nx.length c2, .int .i64 O.hd, .int .i64 O.tl]) := Box.below x_a2 hb
  clear hB2 hs2 x_a2
  clear hb
  go_wp2_with (refine wpList_load_box9 rfl _ _ rfl x_a3 rfl Try.underlying24 rfl SA.out ?_)
  refine (T1 _ _ (HO.out.below hB3)).mono ?_
  rintro e w4 ⟨vx, rfl, hI, hF, hb⟩
  obtain ⟨xx, yx, rfl, rx, ry⟩ := id hI; obtain ⟨px, cx, rfl, hrx⟩ := id rx; obtain ⟨qx, dx, rfl, hry⟩ := id ry; clear hrx hry rx ry hF
  have hB4 : Below w.heap.size w w4 := below_thru hB3 hb
  have hs4 := hB4.size
  have x_a4 : Box w4 (w.heap.size) ([.slice a1 O.pv.length c1, .slice a2 O.nx.length c2, .int .i64 O.hd, .int .i64 O.tl]) := Box.below x_a3 hb
  clear hB3 hs3 x_a3
  clear hb
  have K_w4_4 : Below w4.heap.size w4 w4 := Below.refl _ _
  have Ix : Hid (IsO w4 (.agg [.slice px AA.pv.length cx, .slice qx AA.nx.length dx, .int .i64 AA.hd, .int .i64 AA.tl].toArray) AA) := Lib.hid hI; clear hI
  have d_x_a := (x_a4).lt
  have d_x_0 := hs4
  go_upto_region 5 with (refine wpList_store_box (cs := [.slice px AA.pv.length cx, .slice qx AA.nx.length dx, .int .i64 AA.hd, .int .i64 AA.tl]) rfl _ _ _ rfl (Box.newc (l := od0) rfl rfl) rfl rfl (size_od _ _ _ _) rfl (one_od _ _ _ _ _ _ _ _) ?_; intro W4_0 hW4_0)
  have hN : Below w4.heap.size w4 W4_0 := (hW4_0.below _ _ (by omega) ((Below.refl _ w4).alloc (Nat.le_refl _) _))
  have x_x5 : Box W4_0 (w4.heap.size) ([.slice px AA.pv.length cx, .slice qx AA.nx.length dx, .int .i64 AA.hd, .int .i64 AA.tl]) := hW4_0.box
  have K_w4_5 : Below w4.heap.size w4 W4_0 := below_thru K_w4_4 hN
  clear K_w4_4
  have hB5 : Below w.heap.size w W4_0 := below_thru hB4 hN
  have hs5 := hB5.size
  have x_a5 : Box W4_0 (w.heap.size) ([.slice a1 O.pv.length c1, .slice a2 O.nx.length c2, .int .i64 O.hd, .int .i64 O.tl]) := Box.below x_a4 hN
  clear hB4 hs4 x_a4
  clear hN hW4_0
  go_wp2_with (refine wpList_load_box9 rfl _ _ rfl x_x5 rfl Try.underlying24 rfl (size_od _ _ _ _) ?_)
  refine (T2 _ _ (Ix.out.below K_w4_5)).mono ?_
  rintro e w6 ⟨vy, rfl, hI, hF, hb⟩
  obtain ⟨xy, yy, rfl, rx, ry⟩ := id hI; obtain ⟨py, cy, rfl, hrx⟩ := id rx; obtain ⟨qy, dy, rfl, hry⟩ := id ry; clear hrx hry rx ry hF
  have K_w4_6 : Below w4.heap.size w4 w6 := below_thru K_w4_5 hb
  clear K_w4_5
  have hB6 : Below w.heap.size w w6 := below_thru hB5 hb
  have hs6 := hB6.size
  have x_a6 : Box w6 (w.heap.size) ([.slice a1 O.pv.length c1, .slice a2 O.nx.length c2, .int .i64 O.hd, .int .i64 O.tl]) := Box.below x_a5 hb
  have x_x6 : Box w6 (w4.heap.size) ([.slice px AA.pv.length cx, .slice qx AA.nx.length dx, .int .i64 AA.hd, .int .i64 AA.tl]) := Box.below x_x5 hb
  clear hB5 hs5 x_a5 x_x5
  clear hb
  have K_w6_6 : Below w6.heap.size w6 w6 := Below.refl _ _
  have Iy : Hid (IsO w6 (.agg [.slice py AA.pv.length cy, .slice qy AA.nx.length dy, .int .i64 AA.hd, .int .i64 AA.tl].toArray) AA) := Lib.hid hI; clear hI
  have d_y_a := (x_a6).lt
  have d_y_x := (x_x6).lt
  have d_y_0 := hs6
  go_upto_region 6 with (refine wpList_store_box (cs := [.slice py AA.pv.length cy, .slice qy AA.nx.length dy, .int .i64 AA.hd, .int .i64 AA.tl]) rfl _ _ _ rfl (Box.newc (l := od0) rfl rfl) rfl rfl (size_od _ _ _ _) rfl (one_od _ _ _ _ _ _ _ _) ?_; intro W6_0 hW6_0)
  have hN : Below w6.heap.size w6 W6_0 := (hW6_0.below _ _ (by omega) ((Below.refl _ w6).alloc (Nat.le_refl _) _))
  have x_y7 : Box W6_0 (w6.heap.size) ([.slice py AA.pv.length cy, .slice qy AA.nx.length dy, .int .i64 AA.hd, .int .i64 AA.tl]) := hW6_0.box
  have K_w4_7 : Below w4.heap.size w4 W6_0 := below_thru K_w4_6 hN
  have K_w6_7 : Below w6.heap.size w6 W6_0 := below_thru K_w6_6 hN
  clear K_w4_6 K_w6_6
  have hB7 : Below w.heap.size w W6_0 := below_thru hB6 hN
  have hs7 := hB7.size
  have x_a7 : Box W6_0 (w.heap.size) ([.slice a1 O.pv.length c1, .slice a2 O.nx.length c2, .int .i64 O.hd, .int .i64 O.tl]) := Box.below x_a6 hN
  have x_x7 : Box W6_0 (w4.heap.size) ([.slice px AA.pv.length cx, .slice qx AA.nx.length dx, .int .i64 AA.hd, .int .i64 AA.tl]) := Box.below x_x6 hN
  clear hB6 hs6 x_a6 x_x6
  clear hN hW6_0
  go_wp2_with (refine wpList_load_box9 rfl _ _ rfl x_x7 rfl Try.underlying24 rfl (size_od _ _ _ _) ?_)
  refine (R3 _ _ (Ix.out.below K_w4_7)).mono ?_
  rintro e w8 ⟨vz, rfl, hI, hF, hb⟩
  obtain ⟨xz, yz, rfl, rx, ry⟩ := id hI; obtain ⟨pz, cz, rfl, hrx⟩ := id rx; obtain ⟨qz, dz, rfl, hry⟩ := id ry; clear hrx hry rx ry hF
  have K_w4_8 : Below w4.heap.size w4 w8 := below_thru K_w4_7 hb
  have K_w6_8 : Below w6.heap.size w6 w8 := below_thru K_w6_7 hb
  clear K_w4_7 K_w6_7
  have hB8 : Below w.heap.size w w8 := below_thru hB7 hb
  have hs8 := hB8.size
  have x_a8 : Box w8 (w.heap.size) ([.slice a1 O.pv.length c1, .slice a2 O.nx.length c2, .int .i64 O.hd, .int .i64 O.tl]) := Box.below x_a7 hb
  have x_x8 : Box w8 (w4.heap.size) ([.slice px AA.pv.length cx, .slice qx AA.nx.length dx, .int .i64 AA.hd, .int .i64 AA.tl]) := Box.below x_x7 hb
  have x_y8 : Box w8 (w6.heap.size) ([.slice py AA.pv.length cy, .slice qy AA.nx.length dy, .int .i64 AA.hd, .int .i64 AA.tl]) := Box.below x_y7 hb
  clear hB7 hs7 x_a7 x_x7 x_y7
  clear hb
  have K_w8_8 : Below w8.heap.size w8 w8 := Below.refl _ _
  have Iz : Hid (IsO w8 (.agg [.slice pz CC.pv.length cz, .slice qz CC.nx.length dz, .int .i64 CC.hd, .int .i64 CC.tl].toArray) CC) := Lib.hid hI; clear hI
  have d_z_a := (x_a8).lt
  have d_z_x := (x_x8).lt
  have d_z_y := (x_y8).lt
  have d_z_0 := hs8
  go_upto_region 7 with (refine wpList_store_box (cs := [.slice pz CC.pv.length cz, .slice qz CC.nx.length dz, .int .i64 CC.hd, .int .i64 CC.tl]) rfl _ _ _ rfl (Box.newc (l := od0) rfl rfl) rfl rfl (size_od _ _ _ _) rfl (one_od _ _ _ _ _ _ _ _) ?_; intro W8_0 hW8_0)
  have hN : Below w8.heap.size w8 W8_0 := (hW8_0.below _ _ (by omega) ((Below.refl _ w8).alloc (Nat.le_refl _) _))
  have x_z9 : Box W8_0 (w8.heap.size) ([.slice pz CC.pv.length cz, .slice qz CC.nx.length dz, .int .i64 CC.hd, .int .i64 CC.tl]) := hW8_0.box
  have K_w4_9 : Below w4.heap.size w4 W8_0 := below_thru K_w4_8 hN
  have K_w6_9 : Below w6.heap.size w6 W8_0 := below_thru K_w6_8 hN
  have K_w8_9 : Below w8.heap.size w8 W8_0 := below_thru K_w8_8 hN
  clear K_w4_8 K_w6_8 K_w8_8
  have hB9 : Below w.heap.size w W8_0 := below_thru hB8 hN
  have hs9 := hB9.size
  have x_a9 : Box W8_0 (w.heap.size) ([.slice a1 O.pv.length c1, .slice a2 O.nx.length c2, .int .i64 O.hd, .int .i64 O.tl]) := Box.below x_a8 hN
  have x_x9 : Box W8_0 (w4.heap.size) ([.slice px AA.pv.length cx, .slice qx AA.nx.length dx, .int .i64 AA.hd, .int .i64 AA.tl]) := Box.below x_x8 hN
  have x_y9 : Box W8_0 (w6.heap.size) ([.slice py AA.pv.length cy, .slice qy AA.nx.length dy, .int .i64 AA.hd, .int .i64 AA.tl]) := Box.below x_y8 hN
  clear hB8 hs8 x_a8 x_x8 x_y8
  clear hN hW8_0
  go_wp2_with (refine wpList_load_box9 rfl _ _ rfl x_a9 rfl Try.underlying24 rfl SA.out ?_)
  refine (R4 _ _ (HO.out.below hB9)).mono ?_
  rintro e w10 ⟨vu, rfl, hI, hF, hb⟩
  obtain ⟨xu, yu, rfl, rx, ry⟩ := id hI; obtain ⟨pu, cu, rfl, hrx⟩ := id rx; obtain ⟨qu, du, rfl, hry⟩ := id ry; clear hrx hry rx ry hF
  have K_w4_10 : Below w4.heap.size w4 w10 := below_thru K_w4_9 hb
  have K_w6_10 : Below w6.heap.size w6 w10 := below_thru K_w6_9 hb
  have K_w8_10 : Below w8.heap.size w8 w10 := below_thru K_w8_9 hb
  clear K_w4_9 K_w6_9 K_w8_9
  have hB10 : Below w.heap.size w w10 := below_thru hB9 hb
  have hs10 := hB10.size
  have x_a10 : Box w10 (w.heap.size) ([.slice a1 O.pv.length c1, .slice a2 O.nx.length c2, .int .i64 O.hd, .int .i64 O.tl]) := Box.below x_a9 hb
  have x_x10 : Box w10 (w4.heap.size) ([.slice px AA.pv.length cx, .slice qx AA.nx.length dx, .int .i64 AA.hd, .int .i64 AA.tl]) := Box.below x_x9 hb
  have x_y10 : Box w10 (w6.heap.size) ([.slice py AA.pv.length cy, .slice qy AA.nx.length dy, .int .i64 AA.hd, .int .i64 AA.tl]) := Box.below x_y9 hb
  have x_z10 : Box w10 (w8.heap.size) ([.slice pz CC.pv.length cz, .slice qz CC.nx.length dz, .int .i64 CC.hd, .int .i64 CC.tl]) := Box.below x_z9 hb
  clear hB9 hs9 x_a9 x_x9 x_y9 x_z9
  clear hb
  have K_w10_10 : Below w10.heap.size w10 w10 := Below.refl _ _
  have Iu : Hid (IsO w10 (.agg [.slice pu CC.pv.length cu, .slice qu CC.nx.length du, .int .i64 CC.hd, .int .i64 CC.tl].toArray) CC) := Lib.hid hI; clear hI
  have d_u_a := (x_a10).lt
  have d_u_x := (x_x10).lt
  have d_u_y := (x_y10).lt
  have d_u_z := (x_z10).lt
  have d_u_0 := hs10
  go_upto_region 8 with (refine wpList_store_box (cs := [.slice pu CC.pv.length cu, .slice qu CC.nx.length du, .int .i64 CC.hd, .int .i64 CC.tl]) rfl _ _ _ rfl (Box.newc (l := od0) rfl rfl) rfl rfl (size_od _ _ _ _) rfl (one_od _ _ _ _ _ _ _ _) ?_; intro W10_0 hW10_0)
  have hN : Below w10.heap.size w10 W10_0 := (hW10_0.below _ _ (by omega) ((Below.refl _ w10).alloc (Nat.le_refl _) _))
  have x_u11 : Box W10_0 (w10.heap.size) ([.slice pu CC.pv.length cu, .slice qu CC.nx.length du, .int .i64 CC.hd, .int .i64 CC.tl]) := hW10_0.box
  have K_w4_11 : Below w4.heap.size w4 W10_0 := below_thru K_w4_10 hN
  have K_w6_11 : Below w6.heap.size w6 W10_0 := below_thru K_w6_10 hN
  have K_w8_11 : Below w8.heap.size w8 W10_0 := below_thru K_w8_10 hN
  have K_w10_11 : Below w10.heap.size w10 W10_0 := below_thru K_w10_10 hN
  clear K_w4_10 K_w6_10 K_w8_10 K_w10_10
  have hB11 : Below w.heap.size w W10_0 := below_thru hB10 hN
  have hs11 := hB11.size
  have x_a11 : Box W10_0 (w.heap.size) ([.slice a1 O.pv.length c1, .slice a2 O.nx.length c2, .int .i64 O.hd, .int .i64 O.tl]) := Box.below x_a10 hN
  have x_x11 : Box W10_0 (w4.heap.size) ([.slice px AA.pv.length cx, .slice qx AA.nx.length dx, .int .i64 AA.hd, .int .i64 AA.tl]) := Box.below x_x10 hN
  have x_y11 : Box W10_0 (w6.heap.size) ([.slice py AA.pv.length cy, .slice qy AA.nx.length dy, .int .i64 AA.hd, .int .i64 AA.tl]) := Box.below x_y10 hN
  have x_z11 : Box W10_0 (w8.heap.size) ([.slice pz CC.pv.length cz, .slice qz CC.nx.length dz, .int .i64 CC.hd, .int .i64 CC.tl]) := Box.below x_z10 hN
  clear hB10 hs10 x_a10 x_x10 x_y10 x_z10
  clear hN hW10_0
  go_wp2_with (first
    | (refine wpList_load_box9 rfl _ _ rfl x_x11 rfl Try.underlying24 rfl (size_od _ _ _ _) ?_)
    | (refine wpList_load_box9 rfl _ _ rfl x_y11 rfl Try.underlying24 rfl (size_od _ _ _ _) ?_))
  refine (SM AA _ _ _ (Ix.out.below K_w4_11) (Iy.out.below K_w6_11)).mono ?_
  rintro e w12 ⟨rfl, hb⟩
  have K_w4_12 : Below w4.heap.size w4 w12 := below_thru K_w4_11 hb
  have K_w6_12 : Below w6.heap.size w6 w12 := below_thru K_w6_11 hb
  have K_w8_12 : Below w8.heap.size w8 w12 := below_thru K_w8_11 hb
  have K_w10_12 : Below w10.heap.size w10 w12 := below_thru K_w10_11 hb
  clear K_w4_11 K_w6_11 K_w8_11 K_w10_11
  have hB12 : Below w.heap.size w w12 := below_thru hB11 hb
  have hs12 := hB12.size
  have x_a12 : Box w12 (w.heap.size) ([.slice a1 O.pv.length c1, .slice a2 O.nx.length c2, .int .i64 O.hd, .int .i64 O.tl]) := Box.below x_a11 hb
  have x_x12 : Box w12 (w4.heap.size) ([.slice px AA.pv.length cx, .slice qx AA.nx.length dx, .int .i64 AA.hd, .int .i64 AA.tl]) := Box.below x_x11 hb
  have x_y12 : Box w12 (w6.heap.size) ([.slice py AA.pv.length cy, .slice qy AA.nx.length dy, .int .i64 AA.hd, .int .i64 AA.tl]) := Box.below x_y11 hb
  have x_z12 : Box w12 (w8.heap.size) ([.slice pz CC.pv.length cz, .slice qz CC.nx.length dz, .int .i64 CC.hd, .int .i64 CC.tl]) := Box.below x_z11 hb
  have x_u12 : Box w12 (w10.heap.size) ([.slice pu CC.pv.length cu, .slice qu CC.nx.length du, .int .i64 CC.hd, .int .i64 CC.tl]) := Box.below x_u11 hb
  clear hB11 hs11 x_a11 x_x11 x_y11 x_z11 x_u11
  clear hb
  clear K_w6_12
  clear x_y12
  have ch9 := (x_x12).c 2 _ rfl
  have zh9 := (x_x12).lt
  have ca9 := (x_a12).c 2 _ rfl
  have za9 := (x_a12).lt
  rw [E1.out] at ch9
  go_wp2_with (first
    | (refine wpList_load_box9 rfl _ _ rfl x_z12 rfl Try.underlying24 rfl (size_od _ _ _ _) ?_)
    | (refine wpList_load_box9 rfl _ _ rfl x_u12 rfl Try.underlying24 rfl (size_od _ _ _ _) ?_))
  refine (SM CC _ _ _ (Iz.out.below K_w8_12) (Iu.out.below K_w10_12)).mono ?_
  rintro e w13 ⟨rfl, hb⟩
  have K_w4_13 : Below w4.heap.size w4 w13 := below_thru K_w4_12 hb
  have K_w8_13 : Below w8.heap.size w8 w13 := below_thru K_w8_12 hb
  have K_w10_13 : Below w10.heap.size w10 w13 := below_thru K_w10_12 hb
  clear K_w4_12 K_w8_12 K_w10_12
  have hB13 : Below w.heap.size w w13 := below_thru hB12 hb
  have hs13 := hB13.size
  have x_a13 : Box w13 (w.heap.size) ([.slice a1 O.pv.length c1, .slice a2 O.nx.length c2, .int .i64 O.hd, .int .i64 O.tl]) := Box.below x_a12 hb
  have x_x13 : Box w13 (w4.heap.size) ([.slice px AA.pv.length cx, .slice qx AA.nx.length dx, .int .i64 AA.hd, .int .i64 AA.tl]) := Box.below x_x12 hb
  have x_z13 : Box w13 (w8.heap.size) ([.slice pz CC.pv.length cz, .slice qz CC.nx.length dz, .int .i64 CC.hd, .int .i64 CC.tl]) := Box.below x_z12 hb
  have x_u13 : Box w13 (w10.heap.size) ([.slice pu CC.pv.length cu, .slice qu CC.nx.length du, .int .i64 CC.hd, .int .i64 CC.tl]) := Box.below x_u12 hb
  clear hB12 hs12 x_a12 x_x12 x_z12 x_u12
  clear hb
  go_wp2_with fail
  go_returns
  exact ⟨rfl, hB13⟩

set_option maxRecDepth 100000 in
set_option maxHeartbeats 6400000 in
theorem twice15_e {v : Value} {O : Od} {l : List Nat} {i : Nat} (hg : ¬ GrO O) (hV : VO O l) (hi : i < O.pv.length) (hil : i ∉ l) (w : World) (h1 : IsO w v O) : Calls Try.prog 6 #[v, .int .i64 (i : Int)] w fun e w' => e = .returned (.bool true) ∧ Below w.heap.size w w' := by
  have GR := fun (W : World) (u : Value) (hu9 : IsO W u O) => rlgreat_is (b := false) W hu9 ⟨fun h => (Bool.false_ne_true h).elim, fun h => absurd h hg⟩
  have AL := fun W => alive15_is W
  have PL := fun (W : World) (u : Value) (hu9 : IsO W u O) => rlplace_is (p := (i : Int)) (q := 0) (Or.inr ⟨l, hV, Or.inr ⟨rfl, by omega, by omega⟩⟩) W hu9
  have hh : hdO l ≠ (i : Int) := hdO_ne hil
  have HA : VO (ofL O.pv.length (i :: woO l i)) (i :: woO l i) := hV.touch hi
  have t1 : TcO O i (ofL O.pv.length (i :: woO l i)) 0 := TcO.of hV hi
  have t2 : TcO (ofL O.pv.length (i :: woO l i)) i (ofL O.pv.length (i :: woO l i)) 0 := by
    have h := TcO.of HA (i := i) (by rw [ofL_pv]; exact hi)
    rw [ofL_pv, woO_cons] at h
    exact h
  have t3 : RmO (ofL O.pv.length (i :: woO l i)) i (ofL O.pv.length (woO l i)) 0 := by
    have h := RmO.yes HA (i := i) List.mem_cons_self
    rw [ofL_pv, woO_cons] at h
    exact h
  have t4 : RmO O i Od.zero 6 := RmO.no hV hi hil
  have e1 : (ofL O.pv.length (i :: woO l i)).hd = (i : Int) := rfl
  have e3 : ofL O.pv.length (woO l i) = O := by rw [woO_not hil]; exact hV.eq.symm
  have e4 : O.hd = hdO l := hV.hd; rw [← e4] at hh
  obtain ⟨AA, hA⟩ : ∃ A, ofL O.pv.length (i :: woO l i) = A := ⟨_, rfl⟩; obtain ⟨CC, hC⟩ : ∃ A, ofL O.pv.length (woO l i) = A := ⟨_, rfl⟩; rw [hA] at t1 t2 t3 e1; rw [hC] at t3 e3; clear hA hC HA e4
  have T1 := fun (W : World) (u : Value) (h : IsO W u O) => pltouch_is t1 W h; have T2 := fun (W : World) (u : Value) (h : IsO W u AA) => pltouch_is t2 W h; have R3 := fun (W : World) (u : Value) (h : IsO W u AA) => plremove_is t3 W h; have R4 := fun (W : World) (u : Value) (h : IsO W u O) => plremove_is t4 W h
  have SM := fun (X : Od) (W : World) (u v : Value) (h : IsO W u X) (g : IsO W v X) => rlsame_is (same_o X) W h g; have E1 := Lib.hid e1
  have d1 : ((i : Int) != (i : Int)) = false := bne_self_eq_false _; have d2 : (O.hd == (i : Int)) = false := beq_eq_false_iff_ne.2 hh
  have E3 := Lib.hid e3; clear e3
  clear hg hV hi hil hh t1 t2 t3 t4 e1
  have HO := Lib.hid h1
  obtain ⟨v1, v2, rfl, g1, g2⟩ := id h1
  obtain ⟨a1, c1, rfl, hr1⟩ := id g1; obtain ⟨a2, c2, rfl, hr2⟩ := id g2
  have m1 := hr1.most; have r1 := hr1.room; have m2 := hr2.most; have r2 := hr2.room; have H1 := Lib.hid g1; have H2 := Lib.hid g2
  clear hr1 hr2 g1 g2 h1
  have SA := Lib.hid (size_od (.slice a1 O.pv.length c1) (.slice a2 O.nx.length c2) (.int .i64 O.hd) (.int .i64 O.tl))
  go_enter Try.func6, Try.ntmps6
  go_upto_region 1 with fail
  refine F_gen (F := fun W => Code.wp _ _ _ _ W) (J := fun W => Box W (w.heap.size) ([.slice a1 O.pv.length c1, .slice a2 O.nx.length c2, .int .i64 O.hd, .int .i64 O.tl]) ∧ Below w.heap.size w W) (And.intro (Box.newc rfl rfl) (by go_grown)) ?_
  intro w0 ⟨e_a, hB0⟩
  have hs0 := hB0.size
  have x_a0 := e_a; clear e_a
  go_wp2_with fail
  refine (AL _).mono ?_
  rintro e w1 ⟨rfl, hb⟩
  have hB1 : Below w.heap.size w w1 := below_thru hB0 hb
  have hs1 := hB1.size
  have x_a1 : Box w1 (w.heap.size) ([.slice a1 O.pv.length c1, .slice a2 O.nx.length c2, .int .i64 O.hd, .int .i64 O.tl]) := Box.below x_a0 hb
  clear hB0 hs0 x_a0
  clear hb
  go_wp2_with (refine wpList_load_box9 rfl _ _ rfl x_a1 rfl Try.underlying24 rfl SA.out ?_)
  refine (GR _ _ (HO.out.below hB1)).mono ?_
  rintro e w2 ⟨rfl, hb⟩
  have hB2 : Below w.heap.size w w2 := below_thru hB1 hb
  have hs2 := hB2.size
  have x_a2 : Box w2 (w.heap.size) ([.slice a1 O.pv.length c1, .slice a2 O.nx.length c2, .int .i64 O.hd, .int .i64 O.tl]) := Box.below x_a1 hb
  clear hB1 hs1 x_a1
  clear hb
  go_wp2_with (refine wpList_load_box9 rfl _ _ rfl x_a2 rfl Try.underlying24 rfl SA.out ?_)
  refine (PL _ _ (HO.out.below hB2)).mono ?_
  rintro e w3 ⟨rfl, hb⟩
  have hB3 : Below w.heap.size w w3 := below_thru hB2 hb
  have hs3 := hB3.size
  have x_a3 : Box w3 (w.heap.size) ([.slice a1 O.pv.length c1, .slice a2 O.nx.length c2, .int .i64 O.hd, .int .i64 O.tl]) := Box.below x_a2 hb
  clear hB2 hs2 x_a2
  clear hb
  go_wp2_with (refine wpList_load_box9 rfl _ _ rfl x_a3 rfl Try.underlying24 rfl SA.out ?_)
  refine (T1 _ _ (HO.out.below hB3)).mono ?_
  rintro e w4 ⟨vx, rfl, hI, hF, hb⟩
  obtain ⟨xx, yx, rfl, rx, ry⟩ := id hI; obtain ⟨px, cx, rfl, hrx⟩ := id rx; obtain ⟨qx, dx, rfl, hry⟩ := id ry; clear hrx hry rx ry hF
  have hB4 : Below w.heap.size w w4 := below_thru hB3 hb
  have hs4 := hB4.size
  have x_a4 : Box w4 (w.heap.size) ([.slice a1 O.pv.length c1, .slice a2 O.nx.length c2, .int .i64 O.hd, .int .i64 O.tl]) := Box.below x_a3 hb
  clear hB3 hs3 x_a3
  clear hb
  have K_w4_4 : Below w4.heap.size w4 w4 := Below.refl _ _
  have Ix : Hid (IsO w4 (.agg [.slice px AA.pv.length cx, .slice qx AA.nx.length dx, .int .i64 AA.hd, .int .i64 AA.tl].toArray) AA) := Lib.hid hI; clear hI
  have d_x_a := (x_a4).lt
  have d_x_0 := hs4
  go_upto_region 5 with (refine wpList_store_box (cs := [.slice px AA.pv.length cx, .slice qx AA.nx.length dx, .int .i64 AA.hd, .int .i64 AA.tl]) rfl _ _ _ rfl (Box.newc (l := od0) rfl rfl) rfl rfl (size_od _ _ _ _) rfl (one_od _ _ _ _ _ _ _ _) ?_; intro W4_0 hW4_0)
  have hN : Below w4.heap.size w4 W4_0 := (hW4_0.below _ _ (by omega) ((Below.refl _ w4).alloc (Nat.le_refl _) _))
  have x_x5 : Box W4_0 (w4.heap.size) ([.slice px AA.pv.length cx, .slice qx AA.nx.length dx, .int .i64 AA.hd, .int .i64 AA.tl]) := hW4_0.box
  have K_w4_5 : Below w4.heap.size w4 W4_0 := below_thru K_w4_4 hN
  clear K_w4_4
  have hB5 : Below w.heap.size w W4_0 := below_thru hB4 hN
  have hs5 := hB5.size
  have x_a5 : Box W4_0 (w.heap.size) ([.slice a1 O.pv.length c1, .slice a2 O.nx.length c2, .int .i64 O.hd, .int .i64 O.tl]) := Box.below x_a4 hN
  clear hB4 hs4 x_a4
  clear hN hW4_0
  go_wp2_with (refine wpList_load_box9 rfl _ _ rfl x_x5 rfl Try.underlying24 rfl (size_od _ _ _ _) ?_)
  refine (T2 _ _ (Ix.out.below K_w4_5)).mono ?_
  rintro e w6 ⟨vy, rfl, hI, hF, hb⟩
  obtain ⟨xy, yy, rfl, rx, ry⟩ := id hI; obtain ⟨py, cy, rfl, hrx⟩ := id rx; obtain ⟨qy, dy, rfl, hry⟩ := id ry; clear hrx hry rx ry hF
  have K_w4_6 : Below w4.heap.size w4 w6 := below_thru K_w4_5 hb
  clear K_w4_5
  have hB6 : Below w.heap.size w w6 := below_thru hB5 hb
  have hs6 := hB6.size
  have x_a6 : Box w6 (w.heap.size) ([.slice a1 O.pv.length c1, .slice a2 O.nx.length c2, .int .i64 O.hd, .int .i64 O.tl]) := Box.below x_a5 hb
  have x_x6 : Box w6 (w4.heap.size) ([.slice px AA.pv.length cx, .slice qx AA.nx.length dx, .int .i64 AA.hd, .int .i64 AA.tl]) := Box.below x_x5 hb
  clear hB5 hs5 x_a5 x_x5
  clear hb
  have K_w6_6 : Below w6.heap.size w6 w6 := Below.refl _ _
  have Iy : Hid (IsO w6 (.agg [.slice py AA.pv.length cy, .slice qy AA.nx.length dy, .int .i64 AA.hd, .int .i64 AA.tl].toArray) AA) := Lib.hid hI; clear hI
  have d_y_a := (x_a6).lt
  have d_y_x := (x_x6).lt
  have d_y_0 := hs6
  go_upto_region 6 with (refine wpList_store_box (cs := [.slice py AA.pv.length cy, .slice qy AA.nx.length dy, .int .i64 AA.hd, .int .i64 AA.tl]) rfl _ _ _ rfl (Box.newc (l := od0) rfl rfl) rfl rfl (size_od _ _ _ _) rfl (one_od _ _ _ _ _ _ _ _) ?_; intro W6_0 hW6_0)
  have hN : Below w6.heap.size w6 W6_0 := (hW6_0.below _ _ (by omega) ((Below.refl _ w6).alloc (Nat.le_refl _) _))
  have x_y7 : Box W6_0 (w6.heap.size) ([.slice py AA.pv.length cy, .slice qy AA.nx.length dy, .int .i64 AA.hd, .int .i64 AA.tl]) := hW6_0.box
  have K_w4_7 : Below w4.heap.size w4 W6_0 := below_thru K_w4_6 hN
  have K_w6_7 : Below w6.heap.size w6 W6_0 := below_thru K_w6_6 hN
  clear K_w4_6 K_w6_6
  have hB7 : Below w.heap.size w W6_0 := below_thru hB6 hN
  have hs7 := hB7.size
  have x_a7 : Box W6_0 (w.heap.size) ([.slice a1 O.pv.length c1, .slice a2 O.nx.length c2, .int .i64 O.hd, .int .i64 O.tl]) := Box.below x_a6 hN
  have x_x7 : Box W6_0 (w4.heap.size) ([.slice px AA.pv.length cx, .slice qx AA.nx.length dx, .int .i64 AA.hd, .int .i64 AA.tl]) := Box.below x_x6 hN
  clear hB6 hs6 x_a6 x_x6
  clear hN hW6_0
  go_wp2_with (refine wpList_load_box9 rfl _ _ rfl x_x7 rfl Try.underlying24 rfl (size_od _ _ _ _) ?_)
  refine (R3 _ _ (Ix.out.below K_w4_7)).mono ?_
  rintro e w8 ⟨vz, rfl, hI, hF, hb⟩
  obtain ⟨xz, yz, rfl, rx, ry⟩ := id hI; obtain ⟨pz, cz, rfl, hrx⟩ := id rx; obtain ⟨qz, dz, rfl, hry⟩ := id ry; clear hrx hry rx ry hF
  have K_w4_8 : Below w4.heap.size w4 w8 := below_thru K_w4_7 hb
  have K_w6_8 : Below w6.heap.size w6 w8 := below_thru K_w6_7 hb
  clear K_w4_7 K_w6_7
  have hB8 : Below w.heap.size w w8 := below_thru hB7 hb
  have hs8 := hB8.size
  have x_a8 : Box w8 (w.heap.size) ([.slice a1 O.pv.length c1, .slice a2 O.nx.length c2, .int .i64 O.hd, .int .i64 O.tl]) := Box.below x_a7 hb
  have x_x8 : Box w8 (w4.heap.size) ([.slice px AA.pv.length cx, .slice qx AA.nx.length dx, .int .i64 AA.hd, .int .i64 AA.tl]) := Box.below x_x7 hb
  have x_y8 : Box w8 (w6.heap.size) ([.slice py AA.pv.length cy, .slice qy AA.nx.length dy, .int .i64 AA.hd, .int .i64 AA.tl]) := Box.below x_y7 hb
  clear hB7 hs7 x_a7 x_x7 x_y7
  clear hb
  have K_w8_8 : Below w8.heap.size w8 w8 := Below.refl _ _
  have Iz : Hid (IsO w8 (.agg [.slice pz CC.pv.length cz, .slice qz CC.nx.length dz, .int .i64 CC.hd, .int .i64 CC.tl].toArray) CC) := Lib.hid hI; clear hI
  have d_z_a := (x_a8).lt
  have d_z_x := (x_x8).lt
  have d_z_y := (x_y8).lt
  have d_z_0 := hs8
  go_upto_region 7 with (refine wpList_store_box (cs := [.slice pz CC.pv.length cz, .slice qz CC.nx.length dz, .int .i64 CC.hd, .int .i64 CC.tl]) rfl _ _ _ rfl (Box.newc (l := od0) rfl rfl) rfl rfl (size_od _ _ _ _) rfl (one_od _ _ _ _ _ _ _ _) ?_; intro W8_0 hW8_0)
  have hN : Below w8.heap.size w8 W8_0 := (hW8_0.below _ _ (by omega) ((Below.refl _ w8).alloc (Nat.le_refl _) _))
  have x_z9 : Box W8_0 (w8.heap.size) ([.slice pz CC.pv.length cz, .slice qz CC.nx.length dz, .int .i64 CC.hd, .int .i64 CC.tl]) := hW8_0.box
  have K_w4_9 : Below w4.heap.size w4 W8_0 := below_thru K_w4_8 hN
  have K_w6_9 : Below w6.heap.size w6 W8_0 := below_thru K_w6_8 hN
  have K_w8_9 : Below w8.heap.size w8 W8_0 := below_thru K_w8_8 hN
  clear K_w4_8 K_w6_8 K_w8_8
  have hB9 : Below w.heap.size w W8_0 := below_thru hB8 hN
  have hs9 := hB9.size
  have x_a9 : Box W8_0 (w.heap.size) ([.slice a1 O.pv.length c1, .slice a2 O.nx.length c2, .int .i64 O.hd, .int .i64 O.tl]) := Box.below x_a8 hN
  have x_x9 : Box W8_0 (w4.heap.size) ([.slice px AA.pv.length cx, .slice qx AA.nx.length dx, .int .i64 AA.hd, .int .i64 AA.tl]) := Box.below x_x8 hN
  have x_y9 : Box W8_0 (w6.heap.size) ([.slice py AA.pv.length cy, .slice qy AA.nx.length dy, .int .i64 AA.hd, .int .i64 AA.tl]) := Box.below x_y8 hN
  clear hB8 hs8 x_a8 x_x8 x_y8
  clear hN hW8_0
  go_wp2_with (refine wpList_load_box9 rfl _ _ rfl x_a9 rfl Try.underlying24 rfl SA.out ?_)
  refine (R4 _ _ (HO.out.below hB9)).mono ?_
  rintro e w10 ⟨vu, rfl, hI, hF, hb⟩
  obtain ⟨xu, yu, rfl, rx, ry⟩ := id hI; obtain ⟨pu, cu, rfl, hrx⟩ := id rx; obtain ⟨qu, du, rfl, hry⟩ := id ry; clear hrx hry rx ry hF
  have K_w4_10 : Below w4.heap.size w4 w10 := below_thru K_w4_9 hb
  have K_w6_10 : Below w6.heap.size w6 w10 := below_thru K_w6_9 hb
  have K_w8_10 : Below w8.heap.size w8 w10 := below_thru K_w8_9 hb
  clear K_w4_9 K_w6_9 K_w8_9
  have hB10 : Below w.heap.size w w10 := below_thru hB9 hb
  have hs10 := hB10.size
  have x_a10 : Box w10 (w.heap.size) ([.slice a1 O.pv.length c1, .slice a2 O.nx.length c2, .int .i64 O.hd, .int .i64 O.tl]) := Box.below x_a9 hb
  have x_x10 : Box w10 (w4.heap.size) ([.slice px AA.pv.length cx, .slice qx AA.nx.length dx, .int .i64 AA.hd, .int .i64 AA.tl]) := Box.below x_x9 hb
  have x_y10 : Box w10 (w6.heap.size) ([.slice py AA.pv.length cy, .slice qy AA.nx.length dy, .int .i64 AA.hd, .int .i64 AA.tl]) := Box.below x_y9 hb
  have x_z10 : Box w10 (w8.heap.size) ([.slice pz CC.pv.length cz, .slice qz CC.nx.length dz, .int .i64 CC.hd, .int .i64 CC.tl]) := Box.below x_z9 hb
  clear hB9 hs9 x_a9 x_x9 x_y9 x_z9
  clear hb
  have K_w10_10 : Below w10.heap.size w10 w10 := Below.refl _ _
  have Iu : Hid (IsO w10 (.agg [.slice pu Od.zero.pv.length cu, .slice qu Od.zero.nx.length du, .int .i64 Od.zero.hd, .int .i64 Od.zero.tl].toArray) Od.zero) := Lib.hid hI; clear hI
  have d_u_a := (x_a10).lt
  have d_u_x := (x_x10).lt
  have d_u_y := (x_y10).lt
  have d_u_z := (x_z10).lt
  have d_u_0 := hs10
  go_upto_region 8 with (refine wpList_store_box (cs := [.slice pu Od.zero.pv.length cu, .slice qu Od.zero.nx.length du, .int .i64 Od.zero.hd, .int .i64 Od.zero.tl]) rfl _ _ _ rfl (Box.newc (l := od0) rfl rfl) rfl rfl (size_od _ _ _ _) rfl (one_od _ _ _ _ _ _ _ _) ?_; intro W10_0 hW10_0)
  have hN : Below w10.heap.size w10 W10_0 := (hW10_0.below _ _ (by omega) ((Below.refl _ w10).alloc (Nat.le_refl _) _))
  have x_u11 : Box W10_0 (w10.heap.size) ([.slice pu Od.zero.pv.length cu, .slice qu Od.zero.nx.length du, .int .i64 Od.zero.hd, .int .i64 Od.zero.tl]) := hW10_0.box
  have K_w4_11 : Below w4.heap.size w4 W10_0 := below_thru K_w4_10 hN
  have K_w6_11 : Below w6.heap.size w6 W10_0 := below_thru K_w6_10 hN
  have K_w8_11 : Below w8.heap.size w8 W10_0 := below_thru K_w8_10 hN
  have K_w10_11 : Below w10.heap.size w10 W10_0 := below_thru K_w10_10 hN
  clear K_w4_10 K_w6_10 K_w8_10 K_w10_10
  have hB11 : Below w.heap.size w W10_0 := below_thru hB10 hN
  have hs11 := hB11.size
  have x_a11 : Box W10_0 (w.heap.size) ([.slice a1 O.pv.length c1, .slice a2 O.nx.length c2, .int .i64 O.hd, .int .i64 O.tl]) := Box.below x_a10 hN
  have x_x11 : Box W10_0 (w4.heap.size) ([.slice px AA.pv.length cx, .slice qx AA.nx.length dx, .int .i64 AA.hd, .int .i64 AA.tl]) := Box.below x_x10 hN
  have x_y11 : Box W10_0 (w6.heap.size) ([.slice py AA.pv.length cy, .slice qy AA.nx.length dy, .int .i64 AA.hd, .int .i64 AA.tl]) := Box.below x_y10 hN
  have x_z11 : Box W10_0 (w8.heap.size) ([.slice pz CC.pv.length cz, .slice qz CC.nx.length dz, .int .i64 CC.hd, .int .i64 CC.tl]) := Box.below x_z10 hN
  clear hB10 hs10 x_a10 x_x10 x_y10 x_z10
  clear hN hW10_0
  go_wp2_with (first
    | (refine wpList_load_box9 rfl _ _ rfl x_x11 rfl Try.underlying24 rfl (size_od _ _ _ _) ?_)
    | (refine wpList_load_box9 rfl _ _ rfl x_y11 rfl Try.underlying24 rfl (size_od _ _ _ _) ?_))
  refine (SM AA _ _ _ (Ix.out.below K_w4_11) (Iy.out.below K_w6_11)).mono ?_
  rintro e w12 ⟨rfl, hb⟩
  have K_w4_12 : Below w4.heap.size w4 w12 := below_thru K_w4_11 hb
  have K_w6_12 : Below w6.heap.size w6 w12 := below_thru K_w6_11 hb
  have K_w8_12 : Below w8.heap.size w8 w12 := below_thru K_w8_11 hb
  have K_w10_12 : Below w10.heap.size w10 w12 := below_thru K_w10_11 hb
  clear K_w4_11 K_w6_11 K_w8_11 K_w10_11
  have hB12 : Below w.heap.size w w12 := below_thru hB11 hb
  have hs12 := hB12.size
  have x_a12 : Box w12 (w.heap.size) ([.slice a1 O.pv.length c1, .slice a2 O.nx.length c2, .int .i64 O.hd, .int .i64 O.tl]) := Box.below x_a11 hb
  have x_x12 : Box w12 (w4.heap.size) ([.slice px AA.pv.length cx, .slice qx AA.nx.length dx, .int .i64 AA.hd, .int .i64 AA.tl]) := Box.below x_x11 hb
  have x_y12 : Box w12 (w6.heap.size) ([.slice py AA.pv.length cy, .slice qy AA.nx.length dy, .int .i64 AA.hd, .int .i64 AA.tl]) := Box.below x_y11 hb
  have x_z12 : Box w12 (w8.heap.size) ([.slice pz CC.pv.length cz, .slice qz CC.nx.length dz, .int .i64 CC.hd, .int .i64 CC.tl]) := Box.below x_z11 hb
  have x_u12 : Box w12 (w10.heap.size) ([.slice pu Od.zero.pv.length cu, .slice qu Od.zero.nx.length du, .int .i64 Od.zero.hd, .int .i64 Od.zero.tl]) := Box.below x_u11 hb
  clear hB11 hs11 x_a11 x_x11 x_y11 x_z11 x_u11
  clear hb
  clear K_w6_12
  clear x_y12
  have ch9 := (x_x12).c 2 _ rfl
  have zh9 := (x_x12).lt
  have ca9 := (x_a12).c 2 _ rfl
  have za9 := (x_a12).lt
  rw [E1.out] at ch9
  go_wp2_with (first
    | (refine wpList_load_box9 rfl _ _ rfl x_z12 rfl Try.underlying24 rfl (size_od _ _ _ _) ?_)
    | (refine wpList_load_box9 rfl _ _ rfl x_a12 rfl Try.underlying24 rfl SA.out ?_))
  refine (SM CC _ _ _ (Iz.out.below K_w8_12) (by rw [E3.out]; exact HO.out.below hB12)).mono ?_
  rintro e w13 ⟨rfl, hb⟩
  have K_w4_13 : Below w4.heap.size w4 w13 := below_thru K_w4_12 hb
  have K_w8_13 : Below w8.heap.size w8 w13 := below_thru K_w8_12 hb
  have K_w10_13 : Below w10.heap.size w10 w13 := below_thru K_w10_12 hb
  clear K_w4_12 K_w8_12 K_w10_12
  have hB13 : Below w.heap.size w w13 := below_thru hB12 hb
  have hs13 := hB13.size
  have x_a13 : Box w13 (w.heap.size) ([.slice a1 O.pv.length c1, .slice a2 O.nx.length c2, .int .i64 O.hd, .int .i64 O.tl]) := Box.below x_a12 hb
  have x_x13 : Box w13 (w4.heap.size) ([.slice px AA.pv.length cx, .slice qx AA.nx.length dx, .int .i64 AA.hd, .int .i64 AA.tl]) := Box.below x_x12 hb
  have x_z13 : Box w13 (w8.heap.size) ([.slice pz CC.pv.length cz, .slice qz CC.nx.length dz, .int .i64 CC.hd, .int .i64 CC.tl]) := Box.below x_z12 hb
  have x_u13 : Box w13 (w10.heap.size) ([.slice pu Od.zero.pv.length cu, .slice qu Od.zero.nx.length du, .int .i64 Od.zero.hd, .int .i64 Od.zero.tl]) := Box.below x_u12 hb
  clear hB12 hs12 x_a12 x_x12 x_z12 x_u12
  clear hb
  go_wp2_with fail
  go_returns
  exact ⟨rfl, hB13⟩

theorem twice15_is {v : Value} {O : Od} {p : Int} (w : World) (h1 : IsO w v O) : Calls Try.prog 6 #[v, .int .i64 p] w fun e w' => e = .returned (.bool true) ∧ Below w.heap.size w w' := by
  by_cases hg : GrO O
  · exact twice15_a hg w h1
  obtain ⟨q, hq⟩ := PlO.ex O p
  rcases id hq with ⟨rfl, h⟩ | ⟨l, hV, ⟨rfl, hp⟩ | ⟨rfl, h2, h3⟩⟩
  · exact twice15_b hg hq (by decide) w h1
  · exact twice15_b hg hq (by decide) w h1
  obtain ⟨i, rfl⟩ : ∃ i : Nat, p = i := ⟨p.toNat, by omega⟩
  have hi : i < O.pv.length := by omega
  by_cases hil : i ∈ l
  · by_cases hh : hdO l = (i : Int)
    · exact twice15_c hg hV hi hil hh w h1
    · exact twice15_d hg hV hi hil hh w h1
  · exact twice15_e hg hV hi hil w h1

set_option maxRecDepth 100000 in
set_option maxHeartbeats 6400000 in
theorem removes15_a {v : Value} {O : Od} {p : Int} (hg : GrO O) (w : World) (h1 : IsO w v O) : Calls Try.prog 7 #[v, .int .i64 p] w fun e w' => e = .returned (.bool true) ∧ Below w.heap.size w w' := by
  have GR := fun (W : World) (u : Value) (hu9 : IsO W u O) => rlgreat_is (b := true) W hu9 ⟨fun _ => hg, fun _ => rfl⟩
  have AL := fun W => alive15_is W
  clear hg
  have HO := Lib.hid h1
  obtain ⟨v1, v2, rfl, g1, g2⟩ := id h1
  obtain ⟨a1, c1, rfl, hr1⟩ := id g1; obtain ⟨a2, c2, rfl, hr2⟩ := id g2
  have m1 := hr1.most; have r1 := hr1.room; have m2 := hr2.most; have r2 := hr2.room; have H1 := Lib.hid g1; have H2 := Lib.hid g2
  clear hr1 hr2 g1 g2 h1
  have SA := Lib.hid (size_od (.slice a1 O.pv.length c1) (.slice a2 O.nx.length c2) (.int .i64 O.hd) (.int .i64 O.tl))
  go_enter Try.func7, Try.ntmps7
  go_upto_region 1 with fail
  refine F_gen (F := fun W => Code.wp _ _ _ _ W) (J := fun W => Box W (w.heap.size) ([.slice a1 O.pv.length c1, .slice a2 O.nx.length c2, .int .i64 O.hd, .int .i64 O.tl]) ∧ Below w.heap.size w W) (And.intro (Box.newc rfl rfl) (by go_grown)) ?_
  intro w0 ⟨e_a, hB0⟩
  have hs0 := hB0.size
  have x_a0 := e_a; clear e_a
  go_wp2_with fail
  refine (AL _).mono ?_
  rintro e w1 ⟨rfl, hb⟩
  have hB1 : Below w.heap.size w w1 := below_thru hB0 hb
  have hs1 := hB1.size
  have x_a1 : Box w1 (w.heap.size) ([.slice a1 O.pv.length c1, .slice a2 O.nx.length c2, .int .i64 O.hd, .int .i64 O.tl]) := Box.below x_a0 hb
  clear hB0 hs0 x_a0
  clear hb
  go_wp2_with (refine wpList_load_box9 rfl _ _ rfl x_a1 rfl Try.underlying24 rfl SA.out ?_)
  refine (GR _ _ (HO.out.below hB1)).mono ?_
  rintro e w2 ⟨rfl, hb⟩
  have hB2 : Below w.heap.size w w2 := below_thru hB1 hb
  have hs2 := hB2.size
  have x_a2 : Box w2 (w.heap.size) ([.slice a1 O.pv.length c1, .slice a2 O.nx.length c2, .int .i64 O.hd, .int .i64 O.tl]) := Box.below x_a1 hb
  clear hB1 hs1 x_a1
  clear hb
  go_wp2_with fail
  go_returns
  exact ⟨rfl, hB2⟩

set_option maxRecDepth 100000 in
set_option maxHeartbeats 6400000 in
theorem removes15_b {v : Value} {O : Od} {p : Int} {q : Int} (hg : ¬ GrO O) (hp : PlO O p q) (hq : q ≠ 0) (w : World) (h1 : IsO w v O) : Calls Try.prog 7 #[v, .int .i64 p] w fun e w' => e = .returned (.bool true) ∧ Below w.heap.size w w' := by
  have GR := fun (W : World) (u : Value) (hu9 : IsO W u O) => rlgreat_is (b := false) W hu9 ⟨fun h => (Bool.false_ne_true h).elim, fun h => absurd h hg⟩
  have AL := fun W => alive15_is W
  have PL := fun (W : World) (u : Value) (hu9 : IsO W u O) => rlplace_is hp W hu9
  have d0 : (q != 0) = true := by rw [bne_iff_ne]; exact hq
  clear hg hp hq
  have HO := Lib.hid h1
  obtain ⟨v1, v2, rfl, g1, g2⟩ := id h1
  obtain ⟨a1, c1, rfl, hr1⟩ := id g1; obtain ⟨a2, c2, rfl, hr2⟩ := id g2
  have m1 := hr1.most; have r1 := hr1.room; have m2 := hr2.most; have r2 := hr2.room; have H1 := Lib.hid g1; have H2 := Lib.hid g2
  clear hr1 hr2 g1 g2 h1
  have SA := Lib.hid (size_od (.slice a1 O.pv.length c1) (.slice a2 O.nx.length c2) (.int .i64 O.hd) (.int .i64 O.tl))
  go_enter Try.func7, Try.ntmps7
  go_upto_region 1 with fail
  refine F_gen (F := fun W => Code.wp _ _ _ _ W) (J := fun W => Box W (w.heap.size) ([.slice a1 O.pv.length c1, .slice a2 O.nx.length c2, .int .i64 O.hd, .int .i64 O.tl]) ∧ Below w.heap.size w W) (And.intro (Box.newc rfl rfl) (by go_grown)) ?_
  intro w0 ⟨e_a, hB0⟩
  have hs0 := hB0.size
  have x_a0 := e_a; clear e_a
  go_wp2_with fail
  refine (AL _).mono ?_
  rintro e w1 ⟨rfl, hb⟩
  have hB1 : Below w.heap.size w w1 := below_thru hB0 hb
  have hs1 := hB1.size
  have x_a1 : Box w1 (w.heap.size) ([.slice a1 O.pv.length c1, .slice a2 O.nx.length c2, .int .i64 O.hd, .int .i64 O.tl]) := Box.below x_a0 hb
  clear hB0 hs0 x_a0
  clear hb
  go_wp2_with (refine wpList_load_box9 rfl _ _ rfl x_a1 rfl Try.underlying24 rfl SA.out ?_)
  refine (GR _ _ (HO.out.below hB1)).mono ?_
  rintro e w2 ⟨rfl, hb⟩
  have hB2 : Below w.heap.size w w2 := below_thru hB1 hb
  have hs2 := hB2.size
  have x_a2 : Box w2 (w.heap.size) ([.slice a1 O.pv.length c1, .slice a2 O.nx.length c2, .int .i64 O.hd, .int .i64 O.tl]) := Box.below x_a1 hb
  clear hB1 hs1 x_a1
  clear hb
  go_wp2_with (refine wpList_load_box9 rfl _ _ rfl x_a2 rfl Try.underlying24 rfl SA.out ?_)
  refine (PL _ _ (HO.out.below hB2)).mono ?_
  rintro e w3 ⟨rfl, hb⟩
  have hB3 : Below w.heap.size w w3 := below_thru hB2 hb
  have hs3 := hB3.size
  have x_a3 : Box w3 (w.heap.size) ([.slice a1 O.pv.length c1, .slice a2 O.nx.length c2, .int .i64 O.hd, .int .i64 O.tl]) := Box.below x_a2 hb
  clear hB2 hs2 x_a2
  clear hb
  go_wp2_with fail
  go_returns
  exact ⟨rfl, hB3⟩

set_option maxRecDepth 100000 in
set_option maxHeartbeats 6400000 in
theorem removes15_c {v : Value} {O : Od} {l : List Nat} {i : Nat} (hg : ¬ GrO O) (hV : VO O l) (hi : i < O.pv.length) (hil : i ∈ l) (w : World) (h1 : IsO w v O) : Calls Try.prog 7 #[v, .int .i64 (i : Int)] w fun e w' => e = .returned (.bool true) ∧ Below w.heap.size w w' := by
  have GR := fun (W : World) (u : Value) (hu9 : IsO W u O) => rlgreat_is (b := false) W hu9 ⟨fun h => (Bool.false_ne_true h).elim, fun h => absurd h hg⟩
  have AL := fun W => alive15_is W
  have PL := fun (W : World) (u : Value) (hu9 : IsO W u O) => rlplace_is (p := (i : Int)) (q := 0) (Or.inr ⟨l, hV, Or.inr ⟨rfl, by omega, by omega⟩⟩) W hu9
  have hle : l.length ≤ 200 := by have := hV.le; have := hV.most; omega
  have L1 := fun (W : World) (u : Value) (h : IsO W u O) => pllist_is (Or.inr ⟨rfl, hV⟩) W h
  have IN := fun (W : World) (u : Value) (h : IsR LI W u (nums l)) => rin_is (x := (i : Int)) (b := true) W h ⟨fun _ => nums_mem.2 hil, fun _ => rfl⟩
  have hW := hV.wo i; have t1 := RmO.yes hV hil; obtain ⟨CC, hC⟩ : ∃ A, ofL O.pv.length (woO l i) = A := ⟨_, rfl⟩; rw [hC] at hW t1; clear hC
  have L2 := fun (W : World) (u : Value) (h : IsO W u CC) => pllist_is (Or.inr ⟨rfl, hW⟩) W h; have CK := fun (W : World) (u : Value) (h : IsO W u CC) => rlchk_is W h (ChkO.good hW); have WO := fun (W : World) (u : Value) (h : IsR LI W u (nums l)) => rlwo_is (i := i) hle W h; have SI := fun (W : World) (u v : Value) (h : IsR LI W u (nums (woO l i))) (g : IsR LI W v (nums (woO l i))) => rlsi_is (b := true) W h g ⟨fun _ => rfl, fun _ => rfl⟩
  clear hW
  have R1 := fun (W : World) (u : Value) (h : IsO W u O) => plremove_is t1 W h; clear hg hV hi hil t1 hle
  have HO := Lib.hid h1
  obtain ⟨v1, v2, rfl, g1, g2⟩ := id h1
  obtain ⟨a1, c1, rfl, hr1⟩ := id g1; obtain ⟨a2, c2, rfl, hr2⟩ := id g2
  have m1 := hr1.most; have r1 := hr1.room; have m2 := hr2.most; have r2 := hr2.room; have H1 := Lib.hid g1; have H2 := Lib.hid g2
  clear hr1 hr2 g1 g2 h1
  have SA := Lib.hid (size_od (.slice a1 O.pv.length c1) (.slice a2 O.nx.length c2) (.int .i64 O.hd) (.int .i64 O.tl))
  go_enter Try.func7, Try.ntmps7
  go_upto_region 1 with fail
  refine F_gen (F := fun W => Code.wp _ _ _ _ W) (J := fun W => Box W (w.heap.size) ([.slice a1 O.pv.length c1, .slice a2 O.nx.length c2, .int .i64 O.hd, .int .i64 O.tl]) ∧ Below w.heap.size w W) (And.intro (Box.newc rfl rfl) (by go_grown)) ?_
  intro w0 ⟨e_a, hB0⟩
  have hs0 := hB0.size
  have x_a0 := e_a; clear e_a
  go_wp2_with fail
  refine (AL _).mono ?_
  rintro e w1 ⟨rfl, hb⟩
  have hB1 : Below w.heap.size w w1 := below_thru hB0 hb
  have hs1 := hB1.size
  have x_a1 : Box w1 (w.heap.size) ([.slice a1 O.pv.length c1, .slice a2 O.nx.length c2, .int .i64 O.hd, .int .i64 O.tl]) := Box.below x_a0 hb
  clear hB0 hs0 x_a0
  clear hb
  go_wp2_with (refine wpList_load_box9 rfl _ _ rfl x_a1 rfl Try.underlying24 rfl SA.out ?_)
  refine (GR _ _ (HO.out.below hB1)).mono ?_
  rintro e w2 ⟨rfl, hb⟩
  have hB2 : Below w.heap.size w w2 := below_thru hB1 hb
  have hs2 := hB2.size
  have x_a2 : Box w2 (w.heap.size) ([.slice a1 O.pv.length c1, .slice a2 O.nx.length c2, .int .i64 O.hd, .int .i64 O.tl]) := Box.below x_a1 hb
  clear hB1 hs1 x_a1
  clear hb
  go_wp2_with (refine wpList_load_box9 rfl _ _ rfl x_a2 rfl Try.underlying24 rfl SA.out ?_)
  refine (PL _ _ (HO.out.below hB2)).mono ?_
  rintro e w3 ⟨rfl, hb⟩
  have hB3 : Below w.heap.size w w3 := below_thru hB2 hb
  have hs3 := hB3.size
  have x_a3 : Box w3 (w.heap.size) ([.slice a1 O.pv.length c1, .slice a2 O.nx.length c2, .int .i64 O.hd, .int .i64 O.tl]) := Box.below x_a2 hb
  clear hB2 hs2 x_a2
  clear hb
  go_wp2_with (refine wpList_load_box9 rfl _ _ rfl x_a3 rfl Try.underlying24 rfl SA.out ?_)
  refine (L1 _ _ (HO.out.below hB3)).mono ?_
  rintro e w4 ⟨ul, rfl, hI, hF, hb⟩
  have hB4 : Below w.heap.size w w4 := below_thru hB3 hb
  have hs4 := hB4.size
  have x_a4 : Box w4 (w.heap.size) ([.slice a1 O.pv.length c1, .slice a2 O.nx.length c2, .int .i64 O.hd, .int .i64 O.tl]) := Box.below x_a3 hb
  clear hB3 hs3 x_a3
  clear hb hF
  have K_w4_4 : Below w4.heap.size w4 w4 := Below.refl _ _
  have Jl : Hid (IsR LI w4 ul (nums l)) := Lib.hid hI; clear hI
  go_wp2_with (refine wpList_load_box9 rfl _ _ rfl x_a4 rfl Try.underlying24 rfl SA.out ?_)
  refine (R1 _ _ (HO.out.below hB4)).mono ?_
  rintro e w5 ⟨vx, rfl, hI, hF, hb⟩
  obtain ⟨xx, yx, rfl, rx, ry⟩ := id hI; obtain ⟨px, cx, rfl, hrx⟩ := id rx; obtain ⟨qx, dx, rfl, hry⟩ := id ry; clear hrx hry rx ry hF
  have K_w4_5 : Below w4.heap.size w4 w5 := below_thru K_w4_4 hb
  clear K_w4_4
  have hB5 : Below w.heap.size w w5 := below_thru hB4 hb
  have hs5 := hB5.size
  have x_a5 : Box w5 (w.heap.size) ([.slice a1 O.pv.length c1, .slice a2 O.nx.length c2, .int .i64 O.hd, .int .i64 O.tl]) := Box.below x_a4 hb
  clear hB4 hs4 x_a4
  clear hb
  have K_w5_5 : Below w5.heap.size w5 w5 := Below.refl _ _
  have Ix : Hid (IsO w5 (.agg [.slice px CC.pv.length cx, .slice qx CC.nx.length dx, .int .i64 CC.hd, .int .i64 CC.tl].toArray) CC) := Lib.hid hI; clear hI
  have d_x_a := (x_a5).lt
  have d_x_0 := hs5
  go_upto_region 6 with (refine wpList_store_box (cs := [.slice px CC.pv.length cx, .slice qx CC.nx.length dx, .int .i64 CC.hd, .int .i64 CC.tl]) rfl _ _ _ rfl (Box.newc (l := od0) rfl rfl) rfl rfl (size_od _ _ _ _) rfl (one_od _ _ _ _ _ _ _ _) ?_; intro W5_0 hW5_0)
  have hN : Below w5.heap.size w5 W5_0 := (hW5_0.below _ _ (by omega) ((Below.refl _ w5).alloc (Nat.le_refl _) _))
  have x_x6 : Box W5_0 (w5.heap.size) ([.slice px CC.pv.length cx, .slice qx CC.nx.length dx, .int .i64 CC.hd, .int .i64 CC.tl]) := hW5_0.box
  have K_w4_6 : Below w4.heap.size w4 W5_0 := below_thru K_w4_5 hN
  have K_w5_6 : Below w5.heap.size w5 W5_0 := below_thru K_w5_5 hN
  clear K_w4_5 K_w5_5
  have hB6 : Below w.heap.size w W5_0 := below_thru hB5 hN
  have hs6 := hB6.size
  have x_a6 : Box W5_0 (w.heap.size) ([.slice a1 O.pv.length c1, .slice a2 O.nx.length c2, .int .i64 O.hd, .int .i64 O.tl]) := Box.below x_a5 hN
  clear hB5 hs5 x_a5
  clear hN hW5_0
  go_wp2_with (refine wpList_load_box9 rfl _ _ rfl x_x6 rfl Try.underlying24 rfl (size_od _ _ _ _) ?_)
  refine (L2 _ _ (Ix.out.below K_w5_6)).mono ?_
  rintro e w7 ⟨um, rfl, hI, hF, hb⟩
  have K_w4_7 : Below w4.heap.size w4 w7 := below_thru K_w4_6 hb
  have K_w5_7 : Below w5.heap.size w5 w7 := below_thru K_w5_6 hb
  clear K_w4_6 K_w5_6
  have hB7 : Below w.heap.size w w7 := below_thru hB6 hb
  have hs7 := hB7.size
  have x_a7 : Box w7 (w.heap.size) ([.slice a1 O.pv.length c1, .slice a2 O.nx.length c2, .int .i64 O.hd, .int .i64 O.tl]) := Box.below x_a6 hb
  have x_x7 : Box w7 (w5.heap.size) ([.slice px CC.pv.length cx, .slice qx CC.nx.length dx, .int .i64 CC.hd, .int .i64 CC.tl]) := Box.below x_x6 hb
  clear hB6 hs6 x_a6 x_x6
  clear hb hF
  have K_w7_7 : Below w7.heap.size w7 w7 := Below.refl _ _
  have Jm : Hid (IsR LI w7 um (nums (woO l i))) := Lib.hid hI; clear hI
  go_wp2_with fail
  refine (IN _ _ (Jl.out.below K_w4_7)).mono ?_
  rintro e w8 ⟨rfl, hb⟩
  have K_w4_8 : Below w4.heap.size w4 w8 := below_thru K_w4_7 hb
  have K_w5_8 : Below w5.heap.size w5 w8 := below_thru K_w5_7 hb
  have K_w7_8 : Below w7.heap.size w7 w8 := below_thru K_w7_7 hb
  clear K_w4_7 K_w5_7 K_w7_7
  have hB8 : Below w.heap.size w w8 := below_thru hB7 hb
  have hs8 := hB8.size
  have x_a8 : Box w8 (w.heap.size) ([.slice a1 O.pv.length c1, .slice a2 O.nx.length c2, .int .i64 O.hd, .int .i64 O.tl]) := Box.below x_a7 hb
  have x_x8 : Box w8 (w5.heap.size) ([.slice px CC.pv.length cx, .slice qx CC.nx.length dx, .int .i64 CC.hd, .int .i64 CC.tl]) := Box.below x_x7 hb
  clear hB7 hs7 x_a7 x_x7
  clear hb
  go_wp2_with fail
  refine (WO _ _ (Jl.out.below K_w4_8)).mono ?_
  rintro e w9 ⟨uo, rfl, hO8, hb⟩
  have K_w4_9 : Below w4.heap.size w4 w9 := below_thru K_w4_8 hb
  have K_w5_9 : Below w5.heap.size w5 w9 := below_thru K_w5_8 hb
  have K_w7_9 : Below w7.heap.size w7 w9 := below_thru K_w7_8 hb
  clear K_w4_8 K_w5_8 K_w7_8
  have hB9 : Below w.heap.size w w9 := below_thru hB8 hb
  have hs9 := hB9.size
  have x_a9 : Box w9 (w.heap.size) ([.slice a1 O.pv.length c1, .slice a2 O.nx.length c2, .int .i64 O.hd, .int .i64 O.tl]) := Box.below x_a8 hb
  have x_x9 : Box w9 (w5.heap.size) ([.slice px CC.pv.length cx, .slice qx CC.nx.length dx, .int .i64 CC.hd, .int .i64 CC.tl]) := Box.below x_x8 hb
  clear hB8 hs8 x_a8 x_x8
  clear hb; have JO : Hid (IsR LI w9 uo (nums (woO l i))) := Lib.hid (IsR.own hO8 rfl (nums_len _).symm); clear hO8
  go_wp2_with fail
  refine (SI _ _ _ (Jm.out.below K_w7_9) JO.out).mono ?_
  rintro e w10 ⟨rfl, hb⟩
  have K_w4_10 : Below w4.heap.size w4 w10 := below_thru K_w4_9 hb
  have K_w5_10 : Below w5.heap.size w5 w10 := below_thru K_w5_9 hb
  have K_w7_10 : Below w7.heap.size w7 w10 := below_thru K_w7_9 hb
  clear K_w4_9 K_w5_9 K_w7_9
  have hB10 : Below w.heap.size w w10 := below_thru hB9 hb
  have hs10 := hB10.size
  have x_a10 : Box w10 (w.heap.size) ([.slice a1 O.pv.length c1, .slice a2 O.nx.length c2, .int .i64 O.hd, .int .i64 O.tl]) := Box.below x_a9 hb
  have x_x10 : Box w10 (w5.heap.size) ([.slice px CC.pv.length cx, .slice qx CC.nx.length dx, .int .i64 CC.hd, .int .i64 CC.tl]) := Box.below x_x9 hb
  clear hB9 hs9 x_a9 x_x9
  clear hb
  go_wp2_with (refine wpList_load_box9 rfl _ _ rfl x_x10 rfl Try.underlying24 rfl (size_od _ _ _ _) ?_)
  refine (CK _ _ (Ix.out.below K_w5_10)).mono ?_
  rintro e w11 ⟨rfl, hb⟩
  have K_w4_11 : Below w4.heap.size w4 w11 := below_thru K_w4_10 hb
  have K_w5_11 : Below w5.heap.size w5 w11 := below_thru K_w5_10 hb
  have K_w7_11 : Below w7.heap.size w7 w11 := below_thru K_w7_10 hb
  clear K_w4_10 K_w5_10 K_w7_10
  have hB11 : Below w.heap.size w w11 := below_thru hB10 hb
  have hs11 := hB11.size
  have x_a11 : Box w11 (w.heap.size) ([.slice a1 O.pv.length c1, .slice a2 O.nx.length c2, .int .i64 O.hd, .int .i64 O.tl]) := Box.below x_a10 hb
  have x_x11 : Box w11 (w5.heap.size) ([.slice px CC.pv.length cx, .slice qx CC.nx.length dx, .int .i64 CC.hd, .int .i64 CC.tl]) := Box.below x_x10 hb
  clear hB10 hs10 x_a10 x_x10
  clear hb
  go_wp2_with fail
  go_returns
  exact ⟨rfl, hB11⟩

set_option maxRecDepth 100000 in
set_option maxHeartbeats 6400000 in
theorem removes15_d {v : Value} {O : Od} {l : List Nat} {i : Nat} (hg : ¬ GrO O) (hV : VO O l) (hi : i < O.pv.length) (hil : i ∉ l) (w : World) (h1 : IsO w v O) : Calls Try.prog 7 #[v, .int .i64 (i : Int)] w fun e w' => e = .returned (.bool true) ∧ Below w.heap.size w w' := by
  have GR := fun (W : World) (u : Value) (hu9 : IsO W u O) => rlgreat_is (b := false) W hu9 ⟨fun h => (Bool.false_ne_true h).elim, fun h => absurd h hg⟩
  have AL := fun W => alive15_is W
  have PL := fun (W : World) (u : Value) (hu9 : IsO W u O) => rlplace_is (p := (i : Int)) (q := 0) (Or.inr ⟨l, hV, Or.inr ⟨rfl, by omega, by omega⟩⟩) W hu9
  have hle : l.length ≤ 200 := by have := hV.le; have := hV.most; omega
  have L1 := fun (W : World) (u : Value) (h : IsO W u O) => pllist_is (Or.inr ⟨rfl, hV⟩) W h
  have IN := fun (W : World) (u : Value) (h : IsR LI W u (nums l)) => rin_is (x := (i : Int)) (b := false) W h ⟨fun h => (Bool.false_ne_true h).elim, fun h => absurd (nums_mem.1 h) hil⟩
  have t1 := RmO.no hV hi hil; obtain ⟨CC, hC⟩ : ∃ A, Od.zero = A := ⟨_, rfl⟩; rw [hC] at t1; clear hC
  have R1 := fun (W : World) (u : Value) (h : IsO W u O) => plremove_is t1 W h; clear hg hV hi hil t1 hle
  have HO := Lib.hid h1
  obtain ⟨v1, v2, rfl, g1, g2⟩ := id h1
  obtain ⟨a1, c1, rfl, hr1⟩ := id g1; obtain ⟨a2, c2, rfl, hr2⟩ := id g2
  have m1 := hr1.most; have r1 := hr1.room; have m2 := hr2.most; have r2 := hr2.room; have H1 := Lib.hid g1; have H2 := Lib.hid g2
  clear hr1 hr2 g1 g2 h1
  have SA := Lib.hid (size_od (.slice a1 O.pv.length c1) (.slice a2 O.nx.length c2) (.int .i64 O.hd) (.int .i64 O.tl))
  go_enter Try.func7, Try.ntmps7
  go_upto_region 1 with fail
  refine F_gen (F := fun W => Code.wp _ _ _ _ W) (J := fun W => Box W (w.heap.size) ([.slice a1 O.pv.length c1, .slice a2 O.nx.length c2, .int .i64 O.hd, .int .i64 O.tl]) ∧ Below w.heap.size w W) (And.intro (Box.newc rfl rfl) (by go_grown)) ?_
  intro w0 ⟨e_a, hB0⟩
  have hs0 := hB0.size
  have x_a0 := e_a; clear e_a
  go_wp2_with fail
  refine (AL _).mono ?_
  rintro e w1 ⟨rfl, hb⟩
  have hB1 : Below w.heap.size w w1 := below_thru hB0 hb
  have hs1 := hB1.size
  have x_a1 : Box w1 (w.heap.size) ([.slice a1 O.pv.length c1, .slice a2 O.nx.length c2, .int .i64 O.hd, .int .i64 O.tl]) := Box.below x_a0 hb
  clear hB0 hs0 x_a0
  clear hb
  go_wp2_with (refine wpList_load_box9 rfl _ _ rfl x_a1 rfl Try.underlying24 rfl SA.out ?_)
  refine (GR _ _ (HO.out.below hB1)).mono ?_
  rintro e w2 ⟨rfl, hb⟩
  have hB2 : Below w.heap.size w w2 := below_thru hB1 hb
  have hs2 := hB2.size
  have x_a2 : Box w2 (w.heap.size) ([.slice a1 O.pv.length c1, .slice a2 O.nx.length c2, .int .i64 O.hd, .int .i64 O.tl]) := Box.below x_a1 hb
  clear hB1 hs1 x_a1
  clear hb
  go_wp2_with (refine wpList_load_box9 rfl _ _ rfl x_a2 rfl Try.underlying24 rfl SA.out ?_)
  refine (PL _ _ (HO.out.below hB2)).mono ?_
  rintro e w3 ⟨rfl, hb⟩
  have hB3 : Below w.heap.size w w3 := below_thru hB2 hb
  have hs3 := hB3.size
  have x_a3 : Box w3 (w.heap.size) ([.slice a1 O.pv.length c1, .slice a2 O.nx.length c2, .int .i64 O.hd, .int .i64 O.tl]) := Box.below x_a2 hb
  clear hB2 hs2 x_a2
  clear hb
  go_wp2_with (refine wpList_load_box9 rfl _ _ rfl x_a3 rfl Try.underlying24 rfl SA.out ?_)
  refine (L1 _ _ (HO.out.below hB3)).mono ?_
  rintro e w4 ⟨ul, rfl, hI, hF, hb⟩
  have hB4 : Below w.heap.size w w4 := below_thru hB3 hb
  have hs4 := hB4.size
  have x_a4 : Box w4 (w.heap.size) ([.slice a1 O.pv.length c1, .slice a2 O.nx.length c2, .int .i64 O.hd, .int .i64 O.tl]) := Box.below x_a3 hb
  clear hB3 hs3 x_a3
  clear hb hF
  have K_w4_4 : Below w4.heap.size w4 w4 := Below.refl _ _
  have Jl : Hid (IsR LI w4 ul (nums l)) := Lib.hid hI; clear hI
  go_wp2_with (refine wpList_load_box9 rfl _ _ rfl x_a4 rfl Try.underlying24 rfl SA.out ?_)
  refine (R1 _ _ (HO.out.below hB4)).mono ?_
  rintro e w5 ⟨vx, rfl, hI, hF, hb⟩
  obtain ⟨xx, yx, rfl, rx, ry⟩ := id hI; obtain ⟨px, cx, rfl, hrx⟩ := id rx; obtain ⟨qx, dx, rfl, hry⟩ := id ry; clear hrx hry rx ry hF
  have K_w4_5 : Below w4.heap.size w4 w5 := below_thru K_w4_4 hb
  clear K_w4_4
  have hB5 : Below w.heap.size w w5 := below_thru hB4 hb
  have hs5 := hB5.size
  have x_a5 : Box w5 (w.heap.size) ([.slice a1 O.pv.length c1, .slice a2 O.nx.length c2, .int .i64 O.hd, .int .i64 O.tl]) := Box.below x_a4 hb
  clear hB4 hs4 x_a4
  clear hb
  have K_w5_5 : Below w5.heap.size w5 w5 := Below.refl _ _
  have Ix : Hid (IsO w5 (.agg [.slice px CC.pv.length cx, .slice qx CC.nx.length dx, .int .i64 CC.hd, .int .i64 CC.tl].toArray) CC) := Lib.hid hI; clear hI
  have d_x_a := (x_a5).lt
  have d_x_0 := hs5
  go_upto_region 6 with (refine wpList_store_box (cs := [.slice px CC.pv.length cx, .slice qx CC.nx.length dx, .int .i64 CC.hd, .int .i64 CC.tl]) rfl _ _ _ rfl (Box.newc (l := od0) rfl rfl) rfl rfl (size_od _ _ _ _) rfl (one_od _ _ _ _ _ _ _ _) ?_; intro W5_0 hW5_0)
  have hN : Below w5.heap.size w5 W5_0 := (hW5_0.below _ _ (by omega) ((Below.refl _ w5).alloc (Nat.le_refl _) _))
  have x_x6 : Box W5_0 (w5.heap.size) ([.slice px CC.pv.length cx, .slice qx CC.nx.length dx, .int .i64 CC.hd, .int .i64 CC.tl]) := hW5_0.box
  have K_w4_6 : Below w4.heap.size w4 W5_0 := below_thru K_w4_5 hN
  have K_w5_6 : Below w5.heap.size w5 W5_0 := below_thru K_w5_5 hN
  clear K_w4_5 K_w5_5
  have hB6 : Below w.heap.size w W5_0 := below_thru hB5 hN
  have hs6 := hB6.size
  have x_a6 : Box W5_0 (w.heap.size) ([.slice a1 O.pv.length c1, .slice a2 O.nx.length c2, .int .i64 O.hd, .int .i64 O.tl]) := Box.below x_a5 hN
  clear hB5 hs5 x_a5
  clear hN hW5_0
  go_wp2_with fail
  refine (IN _ _ (Jl.out.below K_w4_6)).mono ?_
  rintro e w7 ⟨rfl, hb⟩
  have K_w4_7 : Below w4.heap.size w4 w7 := below_thru K_w4_6 hb
  have K_w5_7 : Below w5.heap.size w5 w7 := below_thru K_w5_6 hb
  clear K_w4_6 K_w5_6
  have hB7 : Below w.heap.size w w7 := below_thru hB6 hb
  have hs7 := hB7.size
  have x_a7 : Box w7 (w.heap.size) ([.slice a1 O.pv.length c1, .slice a2 O.nx.length c2, .int .i64 O.hd, .int .i64 O.tl]) := Box.below x_a6 hb
  have x_x7 : Box w7 (w5.heap.size) ([.slice px CC.pv.length cx, .slice qx CC.nx.length dx, .int .i64 CC.hd, .int .i64 CC.tl]) := Box.below x_x6 hb
  clear hB6 hs6 x_a6 x_x6
  clear hb
  go_wp2_with fail
  go_returns
  exact ⟨rfl, hB7⟩

theorem removes15_is {v : Value} {O : Od} {p : Int} (w : World) (h1 : IsO w v O) : Calls Try.prog 7 #[v, .int .i64 p] w fun e w' => e = .returned (.bool true) ∧ Below w.heap.size w w' := by
  by_cases hg : GrO O
  · exact removes15_a hg w h1
  obtain ⟨q, hq⟩ := PlO.ex O p
  rcases id hq with ⟨rfl, h⟩ | ⟨l, hV, ⟨rfl, hp⟩ | ⟨rfl, h2, h3⟩⟩
  · exact removes15_b hg hq (by decide) w h1
  · exact removes15_b hg hq (by decide) w h1
  obtain ⟨i, rfl⟩ : ∃ i : Nat, p = i := ⟨p.toNat, by omega⟩
  have hi : i < O.pv.length := by omega
  by_cases hil : i ∈ l
  · exact removes15_c hg hV hi hil w h1
  · exact removes15_d hg hV hi hil w h1


end Go.Proofs.Ytjhlpkkefdohjaa
