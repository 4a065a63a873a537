/-
  ProbeNames, walked.
-/
import Derived.Test.YtalfnmlbidohcaaPbH
namespace Go.Proofs.Ytalfnmlbidohcaa
open Go.RowKit

theorem RowC.low {w : World} {B B' : Nat} {v : Value} {y : List Cel} (h : RowC w B v y) (hB : B' ≤ B) : RowC w B' v y := by
  obtain ⟨hl, g, c, e, h0, h1⟩ := h
  exact ⟨hl, g, c, e, by omega, h1⟩
def y0_14 : List Cel := newX.drop 1
def y1_14 : List Cel := newX.set 0 ⟨1, 0, false⟩
def y2_14 : List Cel := newX.set 0 ⟨0, 1, false⟩
def y3_14 : List Cel := newX.set 8 ⟨1, 0, true⟩
def y4_14 : List Cel := newX.set 9 ⟨1, 16, true⟩
def y5a_14 : List Cel := newX.set 9 ⟨1, 0, true⟩
def y5_14 : List Cel := y5a_14.set 10 ⟨1, 2, true⟩
def y6_14 : List Cel := newX.set 9 ⟨1, -1, true⟩
theorem n0_14 : ¬ Valid y0_14 := fun h => absurd h.len (by decide)
theorem n1_14 : ¬ Valid y1_14 := fun h => absurd (congrArg Cel.k (h.zer 0 (by decide) (by decide))) (by decide)
theorem n2_14 : ¬ Valid y2_14 := fun h => absurd (congrArg Cel.p (h.zer 0 (by decide) (by decide))) (by decide)
theorem n3_14 : ¬ Valid y3_14 := fun h => absurd (h.way 8 (by decide) (by decide) 0 (by decide)) (by decide)
theorem n4_14 : ¬ Valid y4_14 := fun h => absurd (h.plc 9 (by decide) (by decide)).2 (by decide)
theorem n5_14 : ¬ Valid y5_14 := fun h => absurd (h.one 9 10 (by decide) (by decide) (by decide) (by decide) (by decide)) (by decide)
theorem n6_14 : ¬ Valid y6_14 := fun h => absurd (h.plc 9 (by decide) (by decide)).1 (by decide)
theorem nn_14 : ¬ Valid [] := fun h => absurd h.len (by decide)
theorem s1_14 : flatR LCel y1_14 = (flatR LCel newX).set 0 (.int .u32 1) := rfl
theorem s2_14 : flatR LCel y2_14 = (flatR LCel newX).set 1 (.int .i64 1) := rfl
theorem build02 (K : Int) (U : Bool) (W : World) : (Instr.build 42 #[(0, .int .u32 K), (2, .bool U)]).run Try.prog W = .ok (.agg [.int .u32 K, .int .i64 0, .bool U].toArray) W := by kernel_rfl
theorem isR_drop1 {w : World} {b : Nat} (h : Box w b (flatR LCel newX)) : IsR LCel w (.slice (some ⟨b, 3, none⟩) 15 15) y0_14 := by
  refine ⟨some ⟨b, 3, none⟩, 15, rfl, by decide, by decide, fun _ => ⟨b, 3, rfl, fun i x hi j v hv => ?_⟩, fun q => by cases q⟩
  have hi2 : newX[i + 1]? = some x := by
    have : y0_14[i]? = newX[1 + i]? := List.getElem?_drop
    rw [this] at hi
    rw [Nat.add_comm]
    exact hi
  have h1 := h.c _ _ (flatR_at (L := LCel) hi2 hv)
  rw [show (i + 1) * LCel.s + j = 3 + i * LCel.s + j by show (i + 1) * 3 + j = 3 + i * 3 + j; omega] at h1
  exact h1
/-- The first k numbers were put, each with itself as its place. -/
structure Sq (X : List Cel) (k : Nat) : Prop where
  ok : Valid X
  cn : cnt X = k
  hs : ∀ key p, Hs X key p ↔ key = p ∧ 0 ≤ p ∧ p < (k : Int)
theorem Sq.new : Sq newX 0 where
  ok := valid_newX
  cn := by decide
  hs key p := ⟨fun ⟨i, h, _⟩ => absurd h (none_newX key i), fun h => by omega⟩
theorem Sq.no {X : List Cel} {k : Nat} (h : Sq X k) {key : Int} (hk : (k : Int) ≤ key) : ∀ i, ¬ Has X key i := fun i hi => by
  have := (h.hs key (cel X i).p).1 ⟨i, hi, rfl⟩
  omega
theorem Sq.has {X : List Cel} {k : Nat} (h : Sq X k) {key : Int} (h0 : 0 ≤ key) (hk : key < (k : Int)) : ∃ i, Has X key i := by
  obtain ⟨i, hi, _⟩ := (h.hs key key).2 ⟨rfl, h0, hk⟩
  exact ⟨i, hi⟩
theorem Sq.put {X : List Cel} {k : Nat} (h : Sq X k) (hk : k < 12) : ∃ Y, PutX X k k Y 0 ∧ Sq Y (k + 1) := by
  have hn := h.no (key := k) (Int.le_refl _)
  obtain ⟨n, h1, _, h2⟩ := h.ok.look_none hn
  have hc : cnt X < 12 := by rw [h.cn]; exact hk
  have hp : 0 ≤ (k : Int) ∧ (k : Int) < 16 := by omega
  refine ⟨putL X k k n, Or.inr (Or.inr (Or.inr (Or.inr ⟨h.ok, hp, hn, rfl, hc, n, h1, h2, rfl⟩))), h.ok.put h1 h2 hp hc, ?_, fun key p => ?_⟩
  · rw [cnt_put h.ok.len h2, h.cn]
  · rw [hs_put h.ok h2, h.hs]
    omega

theorem size_i64n : (Try.prog.info? 3).map (·.size) = some 1 := by kernel_rfl
set_option maxRecDepth 100000 in
set_option maxHeartbeats 6400000 in
theorem names14_is (w : World) : Calls Try.prog 5 #[] w fun e w' => e = .returned (.bool true) ∧ Below w.heap.size w w' := by
  have MN := fun W => make_newX W; have NW := fun W => pnew_is W; have AL := fun W => alive14_is W
  have FD := fun (X : List Cel) (k p q : Int) (hF : FndX X k p q) (W : World) (u : Value) (h : IsR LCel W u X) => pfind_is hF W h; have CK := fun (X : List Cel) (q : Int) (hC : ChkX X q) (W : World) (u : Value) (h : IsR LCel W u X) => pchk_is W h hC; have PU := fun (X Y : List Cel) (k p q : Int) (hP : PutX X k p Y q) (W : World) (u : Value) (h : IsR LCel W u X) => pput_is hP W h; have DR := fun (X Y : List Cel) (k q : Int) (hD : DrpX X k Y q) (W : World) (u : Value) (h : IsR LCel W u X) => pdrop_is hD W h; have SP := fun (X : List Cel) (k n q : Int) (hS : StpX X k n q) (W : World) (u : Value) (h : IsR LCel W u X) => pstep_is hS W h
  have F0 := FD y0_14 1 0 8 (Or.inl ⟨rfl, rfl, n0_14⟩); have C0 := CK y0_14 8 (Or.inr ⟨rfl, n0_14⟩)
  have F1 := FD y1_14 1 0 8 (Or.inl ⟨rfl, rfl, n1_14⟩); have C1 := CK y1_14 8 (Or.inr ⟨rfl, n1_14⟩)
  have F2 := FD y2_14 1 0 8 (Or.inl ⟨rfl, rfl, n2_14⟩); have C2 := CK y2_14 8 (Or.inr ⟨rfl, n2_14⟩)
  have F3 := FD y3_14 1 0 8 (Or.inl ⟨rfl, rfl, n3_14⟩); have C3 := CK y3_14 8 (Or.inr ⟨rfl, n3_14⟩)
  have F4 := FD y4_14 1 0 8 (Or.inl ⟨rfl, rfl, n4_14⟩); have C4 := CK y4_14 8 (Or.inr ⟨rfl, n4_14⟩)
  have F5 := FD y5_14 1 0 8 (Or.inl ⟨rfl, rfl, n5_14⟩); have C5 := CK y5_14 8 (Or.inr ⟨rfl, n5_14⟩)
  have F6 := FD y6_14 1 0 8 (Or.inl ⟨rfl, rfl, n6_14⟩); have C6 := CK y6_14 8 (Or.inr ⟨rfl, n6_14⟩)
  have L48 := Lib.hid (flat16 (x := newX) rfl); have S1 := Lib.hid s1_14; have S2 := Lib.hid s2_14; have U3 := Lib.hid (upd16 (x := newX) rfl (j := 8) (by decide) 1 0 true); have U4 := Lib.hid (upd16 (x := newX) rfl (j := 9) (by decide) 1 16 true); have U5a := Lib.hid (upd16 (x := newX) rfl (j := 9) (by decide) 1 0 true); have U5 := Lib.hid (upd16 (x := y5a_14) rfl (j := 10) (by decide) 1 2 true); have L5 := Lib.hid (flat16 (x := y5a_14) rfl); have U6 := Lib.hid (upd16 (x := newX) rfl (j := 9) (by decide) 1 (-1) true)
  have D1 := fun (W : World) (b : Nat) (h : Box W b (flatR LCel newX)) => isR_drop1 h; have BX := fun (x : List Cel) (hx : x.length = 16) (W : World) (b : Nat) (h : Box W b (flatR LCel x)) => (IsR.ofBoxc h rfl hx.symm (Nat.le_refl 16) (by decide) : IsR LCel W (.slice (some ⟨b, 0, none⟩) 16 16) x)
  have B1 := BX y1_14 rfl
  have B2 := BX y2_14 rfl
  have B3 := BX y3_14 rfl
  have B4 := BX y4_14 rfl
  have B5 := BX y5_14 rfl
  have B6 := BX y6_14 rfl
  clear BX CK
  obtain ⟨Y0, hY0⟩ : ∃ Y, y0_14 = Y := ⟨_, rfl⟩; rw [hY0] at F0 C0 D1
  obtain ⟨Y1, hY1⟩ : ∃ Y, y1_14 = Y := ⟨_, rfl⟩; rw [hY1] at F1 C1 B1
  obtain ⟨Y2, hY2⟩ : ∃ Y, y2_14 = Y := ⟨_, rfl⟩; rw [hY2] at F2 C2 B2
  obtain ⟨Y3, hY3⟩ : ∃ Y, y3_14 = Y := ⟨_, rfl⟩; rw [hY3] at F3 C3 B3
  obtain ⟨Y4, hY4⟩ : ∃ Y, y4_14 = Y := ⟨_, rfl⟩; rw [hY4] at F4 C4 B4
  obtain ⟨Y5, hY5⟩ : ∃ Y, y5_14 = Y := ⟨_, rfl⟩; rw [hY5] at F5 C5 B5
  obtain ⟨Y6, hY6⟩ : ∃ Y, y6_14 = Y := ⟨_, rfl⟩; rw [hY6] at F6 C6 B6
  rw [hY1] at S1
  rw [hY2] at S2
  rw [show newX.set 8 ⟨1, 0, true⟩ = Y3 from hY3] at U3
  rw [show newX.set 9 ⟨1, 16, true⟩ = Y4 from hY4] at U4
  rw [show y5a_14.set 10 ⟨1, 2, true⟩ = Y5 from hY5] at U5
  rw [show newX.set 9 ⟨1, -1, true⟩ = Y6 from hY6] at U6
  rw [show newX.set 9 ⟨1, 0, true⟩ = y5a_14 from rfl] at U5a; clear hY0 hY1 hY2 hY3 hY4 hY5 hY6
  obtain ⟨V0, hV0⟩ : ∃ V, flatR LCel newX = V := ⟨_, rfl⟩; obtain ⟨V5, hV5⟩ : ∃ V, flatR LCel y5a_14 = V := ⟨_, rfl⟩; rw [hV0] at MN L48 S1 S2 U3 U4 U5a U6 D1; rw [hV5] at U5a U5 L5; clear hV0 hV5
  have hB0 := Below.refl w.heap.size w
  have hs0 := hB0.size
  go_enter Try.func5, Try.ntmps5
  go_wp2_with fail
  go_loopw [1] (fun p1 wr => ∃ k : Int, (0 ≤ k ∧ k ≤ 7) ∧ p1 = .int .i64 k ∧ Below w.heap.size w wr) (fun p1 _ => 7 - (intOf p1).toNat)
  case atStart => exact ⟨0, by decide, rfl, hB0⟩
  case round =>
    clear hB0 hs0; obtain ⟨k, hk, rfl, hB⟩ := hrel
    have hs := hB.size; by_cases hlt : k < 7
    case pos =>
      have k7 : k = 0 ∨ k = 1 ∨ k = 2 ∨ k = 3 ∨ k = 4 ∨ k = 5 ∨ k = 6 := by omega
      clear hk hlt
      rcases k7 with rfl | rfl | rfl | rfl | rfl | rfl | rfl
      · skip
        have hB0 := hB
        have hs0 := hB0.size
        clear hB hs; have hsr := hs0
        go_upto_region 6 with fail
        refine F_gen (F := fun W => Code.wp _ _ _ _ W) (J := fun W => Box W (wr.heap.size) (V0) ∧ Below w.heap.size w W) (And.intro (Box.newc (l := V0) rfl rfl) (hB0.alloc (by first | exact hs0 | (simp; omega)) _)) ?_
        intro w1 ⟨x_x1, hB1⟩
        clear hB0 hs0
        have hs1 := hB1.size
        have lx := x_x1.lt; have low := hs1
        go_wp2_with fail
        have HI := Lib.hid (D1 _ _ x_x1); have hB8 := hB1
        refine (F0 _ _ HI.out).mono ?_
        rintro e w83 ⟨rfl, hb⟩
        have HI2 := Lib.hid (HI.out.below hb); have hB9 := below_thru hB8 hb; clear hb hB8 HI
        go_wp2_with fail
        refine (C0 _ _ HI2.out).mono ?_
        rintro e w84 ⟨rfl, hb⟩
        have hB10 := below_thru hB9 hb; clear hb hB9 HI2
        go_wp2_with fail
        go_roundw
        case rel => exact ⟨1, by decide, by go_num, hB10⟩
        case measure => simp [intOf]
      · skip
        have hB0 := hB
        have hs0 := hB0.size
        clear hB hs; have hsr := hs0
        go_upto_region 6 with fail
        refine F_gen (F := fun W => Code.wp _ _ _ _ W) (J := fun W => Box W (wr.heap.size) (V0) ∧ Below w.heap.size w W) (And.intro (Box.newc (l := V0) rfl rfl) (hB0.alloc (by first | exact hs0 | (simp; omega)) _)) ?_
        intro w1 ⟨x_x1, hB1⟩
        clear hB0 hs0
        have hs1 := hB1.size
        have lx := x_x1.lt; have low := hs1
        go_wp2_with (refine wpList_store_cell (k := 0) (ws := flatR LCel Y1) (v := .int .u32 1) rfl _ _ _ rfl x_x1 rfl rfl rfl rfl size_u32n (by rw [L48.out]; decide) S1.out ?_; intro W81 hW81)
        have HI := Lib.hid (B1 _ _ hW81.box); have hB8 := (hW81.below _ _ (by omega) hB1)
        refine (F1 _ _ HI.out).mono ?_
        rintro e w83 ⟨rfl, hb⟩
        have HI2 := Lib.hid (HI.out.below hb); have hB9 := below_thru hB8 hb; clear hb hB8 HI
        go_wp2_with fail
        refine (C1 _ _ HI2.out).mono ?_
        rintro e w84 ⟨rfl, hb⟩
        have hB10 := below_thru hB9 hb; clear hb hB9 HI2
        go_wp2_with fail
        go_roundw
        case rel => exact ⟨2, by decide, by go_num, hB10⟩
        case measure => simp [intOf]
      · skip
        have hB0 := hB
        have hs0 := hB0.size
        clear hB hs; have hsr := hs0
        go_upto_region 6 with fail
        refine F_gen (F := fun W => Code.wp _ _ _ _ W) (J := fun W => Box W (wr.heap.size) (V0) ∧ Below w.heap.size w W) (And.intro (Box.newc (l := V0) rfl rfl) (hB0.alloc (by first | exact hs0 | (simp; omega)) _)) ?_
        intro w1 ⟨x_x1, hB1⟩
        clear hB0 hs0
        have hs1 := hB1.size
        have lx := x_x1.lt; have low := hs1
        go_wp2_with (refine wpList_store_cell (k := 1) (ws := flatR LCel Y2) (v := .int .i64 1) rfl _ _ _ rfl x_x1 rfl rfl rfl rfl size_i64n (by rw [L48.out]; decide) S2.out ?_; intro W81 hW81)
        have HI := Lib.hid (B2 _ _ hW81.box); have hB8 := (hW81.below _ _ (by omega) hB1)
        refine (F2 _ _ HI.out).mono ?_
        rintro e w83 ⟨rfl, hb⟩
        have HI2 := Lib.hid (HI.out.below hb); have hB9 := below_thru hB8 hb; clear hb hB8 HI
        go_wp2_with fail
        refine (C2 _ _ HI2.out).mono ?_
        rintro e w84 ⟨rfl, hb⟩
        have hB10 := below_thru hB9 hb; clear hb hB9 HI2
        go_wp2_with fail
        go_roundw
        case rel => exact ⟨3, by decide, by go_num, hB10⟩
        case measure => simp [intOf]
      · skip
        have hB0 := hB
        have hs0 := hB0.size
        clear hB hs; have hsr := hs0
        go_upto_region 6 with fail
        refine F_gen (F := fun W => Code.wp _ _ _ _ W) (J := fun W => Box W (wr.heap.size) (V0) ∧ Below w.heap.size w W) (And.intro (Box.newc (l := V0) rfl rfl) (hB0.alloc (by first | exact hs0 | (simp; omega)) _)) ?_
        intro w1 ⟨x_x1, hB1⟩
        clear hB0 hs0
        have hs1 := hB1.size
        have lx := x_x1.lt; have low := hs1
        go_wp2_with (first | (refine wpList_build9 rfl 42 _ rfl (us := #[(0, .int .u32 1), (2, .bool true)]) (by rfl) (build02 1 true _) ?_) | (refine wpList_store_partT (k := 8 * 3) (cs := [.int .u32 1, .int .i64 0, .bool true]) (ws := flatR LCel Y3) rfl _ _ _ rfl x_x1 rfl rfl (size_cel _ _ _) (by rw [L48.out]; decide) U3.out (one_cel _ _ _) ?_; intro W81 hW81 tW81))
        have HI := Lib.hid (B3 _ _ hW81.box); have hB8 := (hW81.below _ _ (by omega) hB1)
        refine (F3 _ _ HI.out).mono ?_
        rintro e w83 ⟨rfl, hb⟩
        have HI2 := Lib.hid (HI.out.below hb); have hB9 := below_thru hB8 hb; clear hb hB8 HI
        go_wp2_with fail
        refine (C3 _ _ HI2.out).mono ?_
        rintro e w84 ⟨rfl, hb⟩
        have hB10 := below_thru hB9 hb; clear hb hB9 HI2
        go_wp2_with fail
        go_roundw
        case rel => exact ⟨4, by decide, by go_num, hB10⟩
        case measure => simp [intOf]
      · skip
        have hB0 := hB
        have hs0 := hB0.size
        clear hB hs; have hsr := hs0
        go_upto_region 6 with fail
        refine F_gen (F := fun W => Code.wp _ _ _ _ W) (J := fun W => Box W (wr.heap.size) (V0) ∧ Below w.heap.size w W) (And.intro (Box.newc (l := V0) rfl rfl) (hB0.alloc (by first | exact hs0 | (simp; omega)) _)) ?_
        intro w1 ⟨x_x1, hB1⟩
        clear hB0 hs0
        have hs1 := hB1.size
        have lx := x_x1.lt; have low := hs1
        go_wp2_with (first | (refine wpList_build9 rfl 42 _ rfl (us := #[(0, .int .u32 1), (1, .int .i64 16), (2, .bool true)]) (by rfl) (build_cel 1 16 true _) ?_) | (refine wpList_store_partT (k := 9 * 3) (cs := [.int .u32 1, .int .i64 16, .bool true]) (ws := flatR LCel Y4) rfl _ _ _ rfl x_x1 rfl rfl (size_cel _ _ _) (by rw [L48.out]; decide) U4.out (one_cel _ _ _) ?_; intro W81 hW81 tW81))
        have HI := Lib.hid (B4 _ _ hW81.box); have hB8 := (hW81.below _ _ (by omega) hB1)
        refine (F4 _ _ HI.out).mono ?_
        rintro e w83 ⟨rfl, hb⟩
        have HI2 := Lib.hid (HI.out.below hb); have hB9 := below_thru hB8 hb; clear hb hB8 HI
        go_wp2_with fail
        refine (C4 _ _ HI2.out).mono ?_
        rintro e w84 ⟨rfl, hb⟩
        have hB10 := below_thru hB9 hb; clear hb hB9 HI2
        go_wp2_with fail
        go_roundw
        case rel => exact ⟨5, by decide, by go_num, hB10⟩
        case measure => simp [intOf]
      · skip
        have hB0 := hB
        have hs0 := hB0.size
        clear hB hs; have hsr := hs0
        go_upto_region 6 with fail
        refine F_gen (F := fun W => Code.wp _ _ _ _ W) (J := fun W => Box W (wr.heap.size) (V0) ∧ Below w.heap.size w W) (And.intro (Box.newc (l := V0) rfl rfl) (hB0.alloc (by first | exact hs0 | (simp; omega)) _)) ?_
        intro w1 ⟨x_x1, hB1⟩
        clear hB0 hs0
        have hs1 := hB1.size
        have lx := x_x1.lt; have low := hs1
        go_wp2_with (first | (refine wpList_build9 rfl 42 _ rfl (us := #[(0, .int .u32 1), (2, .bool true)]) (by rfl) (build02 1 true _) ?_) | (refine wpList_build9 rfl 42 _ rfl (us := #[(0, .int .u32 1), (1, .int .i64 2), (2, .bool true)]) (by rfl) (build_cel 1 2 true _) ?_) | (refine wpList_store_partT (k := 9 * 3) (cs := [.int .u32 1, .int .i64 0, .bool true]) (ws := V5) rfl _ _ _ rfl x_x1 rfl rfl (size_cel _ _ _) (by rw [L48.out]; decide) U5a.out (one_cel _ _ _) ?_; intro W81 hW81 tW81) | (refine wpList_store_partT (k := 10 * 3) (cs := [.int .u32 1, .int .i64 2, .bool true]) (ws := flatR LCel Y5) rfl _ _ _ rfl hW81.box rfl rfl (size_cel _ _ _) (by rw [L5.out]; decide) U5.out (one_cel _ _ _) ?_; intro W82 hW82 tW82))
        have HI := Lib.hid (B5 _ _ hW82.box); have hB8 := (hW82.below _ _ (by omega) (hW81.below _ _ (by omega) hB1))
        refine (F5 _ _ HI.out).mono ?_
        rintro e w83 ⟨rfl, hb⟩
        have HI2 := Lib.hid (HI.out.below hb); have hB9 := below_thru hB8 hb; clear hb hB8 HI
        go_wp2_with fail
        refine (C5 _ _ HI2.out).mono ?_
        rintro e w84 ⟨rfl, hb⟩
        have hB10 := below_thru hB9 hb; clear hb hB9 HI2
        go_wp2_with fail
        go_roundw
        case rel => exact ⟨6, by decide, by go_num, hB10⟩
        case measure => simp [intOf]
      · skip
        have hB0 := hB
        have hs0 := hB0.size
        clear hB hs; have hsr := hs0
        go_upto_region 6 with fail
        refine F_gen (F := fun W => Code.wp _ _ _ _ W) (J := fun W => Box W (wr.heap.size) (V0) ∧ Below w.heap.size w W) (And.intro (Box.newc (l := V0) rfl rfl) (hB0.alloc (by first | exact hs0 | (simp; omega)) _)) ?_
        intro w1 ⟨x_x1, hB1⟩
        clear hB0 hs0
        have hs1 := hB1.size
        have lx := x_x1.lt; have low := hs1
        go_wp2_with (first | (refine wpList_build9 rfl 42 _ rfl (us := #[(0, .int .u32 1), (1, .int .i64 (-1)), (2, .bool true)]) (by rfl) (build_cel 1 (-1) true _) ?_) | (refine wpList_store_partT (k := 9 * 3) (cs := [.int .u32 1, .int .i64 (-1), .bool true]) (ws := flatR LCel Y6) rfl _ _ _ rfl x_x1 rfl rfl (size_cel _ _ _) (by rw [L48.out]; decide) U6.out (one_cel _ _ _) ?_; intro W81 hW81 tW81))
        have HI := Lib.hid (B6 _ _ hW81.box); have hB8 := (hW81.below _ _ (by omega) hB1)
        refine (F6 _ _ HI.out).mono ?_
        rintro e w83 ⟨rfl, hb⟩
        have HI2 := Lib.hid (HI.out.below hb); have hB9 := below_thru hB8 hb; clear hb hB8 HI
        go_wp2_with fail
        refine (C6 _ _ HI2.out).mono ?_
        rintro e w84 ⟨rfl, hb⟩
        have hB10 := below_thru hB9 hb; clear hb hB9 HI2
        go_wp2_with fail
        go_roundw
        case rel => exact ⟨7, by decide, by go_num, hB10⟩
        case measure => simp [intOf]
    case neg =>
      have hd : decide (k < 7) = false := decide_eq_false hlt; clear hk F0 F1 F2 F3 F4 F5 F6 C0 C1 C2 C3 C4 C5 C6 MN L48 S1 S2 U3 U4 U5a U5 L5 U6 D1 B1 B2 B3 B4 B5 B6
      go_wp2_with fail
      refine (NW _).mono ?_
      rintro e w2 ⟨u, rfl, hX, hb⟩
      have RX := hX.low hs; have hB2 := below_thru hB hb; clear hX hb hB hs hd hlt
      go_wp2_with fail
      go_loopw [6, 5] (fun p6 p5 wq => ∃ (m : Nat) (X : List Cel), m ≤ 12 ∧ p6 = .int .i64 m ∧ Hid (Sq X m) ∧ Hid (RowC wq w.heap.size p5 X) ∧ Below w.heap.size w wq) (fun p6 _ _ => 12 - (intOf p6).toNat)
      case atStart => exact ⟨0, newX, by decide, rfl, Lib.hid Sq.new, Lib.hid RX, hB2⟩
      case round =>
        clear RX hB2; obtain ⟨m, X, hm, rfl, HS, HX, hB⟩ := hrel
        have hs := hB.size; by_cases hlt : m < 12
        case pos =>
          obtain ⟨Y, hP, hS2⟩ := HS.out.put hlt; have P1 := PU X Y _ _ 0 hP; have HS2 := Lib.hid hS2; have HYl := Lib.hid hS2.ok.len; clear hP hS2; have Wk : IntKind.u32.wrap (m : Int) = (m : Int) := by rw [IntKind.wrap_u32]; omega
          have W1 : IntKind.i64.wrap ((m : Int) + 1) = ((m + 1 : Nat) : Int) := by rw [IntKind.wrap_i64]; omega
          have hd : decide ((m : Int) < 12) = true := decide_eq_true (by omega)
          go_wp2_with fail
          refine (P1 _ _ HX.out.isR).mono ?_
          rintro e w3 ⟨u, rfl, hY, hb⟩
          have HY := Lib.hid ((hY.row HYl.out).low hs); have hB3 := below_thru hB hb; clear hY hb hB hs P1
          go_wp2_with fail
          go_roundw
          case rel => exact ⟨m + 1, Y, by omega, by go_num, HS2, HY, hB3⟩
          case measure => simp [intOf]; omega
        case neg =>
          have hd : decide ((m : Int) < 12) = false := decide_eq_false (by omega); have h12 : Sq X 12 := by have := HS.out; rw [show m = 12 by omega] at this; exact this
          clear HS
          have Pa := PU X [] 12 0 18 (Or.inr (Or.inr (Or.inr (Or.inl ⟨h12.ok, by decide, h12.no (by decide), rfl, rfl, h12.cn⟩))))
          have Pb := PU X [] 3 0 14 (Or.inr (Or.inr (Or.inl ⟨h12.ok, by decide, rfl, rfl, h12.has (by decide) (by decide)⟩)))
          have Pc := PU X [] 3 16 2 (Or.inr (Or.inl ⟨h12.ok, rfl, rfl, by decide⟩))
          have Pd := PU X [] 3 (-1) 2 (Or.inr (Or.inl ⟨h12.ok, rfl, rfl, by decide⟩))
          have Pe := DR X [] 12 6 (Or.inr (Or.inl ⟨h12.ok, rfl, rfl, h12.no (by decide)⟩))
          have Pf := FD X 4294967295 0 6 (Or.inr (Or.inl ⟨h12.ok, rfl, rfl, h12.no (by decide)⟩))
          have Pg := DR [] [] 0 8 (Or.inl ⟨rfl, rfl, nn_14⟩)
          have Ph := PU [] [] 0 99 8 (Or.inl ⟨rfl, rfl, nn_14⟩)
          have Pi := SP [] 0 0 8 (Or.inl ⟨rfl, rfl, nn_14⟩)
          clear h12 FD PU DR SP hm hlt
          have hB0 := hB
          have hs0 := hB0.size
          clear hB hs
          have K_wr_0 : Below wr.heap.size wr wr := Below.refl _ _
          go_wp2_with fail
          refine (Pa _ _ (HX.out.isR.below K_wr_0)).mono ?_
          rintro e w1 ⟨uu, rfl, _, hb⟩
          have K_wr_1 : Below wr.heap.size wr w1 := below_thru K_wr_0 hb
          clear K_wr_0
          have hB1 : Below w.heap.size w w1 := below_thru hB0 hb
          have hs1 := hB1.size
          clear hB0 hs0
          clear hb
          go_wp2_with fail
          refine (Pb _ _ (HX.out.isR.below K_wr_1)).mono ?_
          rintro e w2 ⟨uu, rfl, _, hb⟩
          have K_wr_2 : Below wr.heap.size wr w2 := below_thru K_wr_1 hb
          clear K_wr_1
          have hB2 : Below w.heap.size w w2 := below_thru hB1 hb
          have hs2 := hB2.size
          clear hB1 hs1
          clear hb
          go_wp2_with fail
          refine (Pc _ _ (HX.out.isR.below K_wr_2)).mono ?_
          rintro e w3 ⟨uu, rfl, _, hb⟩
          have K_wr_3 : Below wr.heap.size wr w3 := below_thru K_wr_2 hb
          clear K_wr_2
          have hB3 : Below w.heap.size w w3 := below_thru hB2 hb
          have hs3 := hB3.size
          clear hB2 hs2
          clear hb
          go_wp2_with fail
          refine (Pd _ _ (HX.out.isR.below K_wr_3)).mono ?_
          rintro e w4 ⟨uu, rfl, _, hb⟩
          have K_wr_4 : Below wr.heap.size wr w4 := below_thru K_wr_3 hb
          clear K_wr_3
          have hB4 : Below w.heap.size w w4 := below_thru hB3 hb
          have hs4 := hB4.size
          clear hB3 hs3
          clear hb
          go_wp2_with fail
          refine (Pe _ _ (HX.out.isR.below K_wr_4)).mono ?_
          rintro e w5 ⟨uu, rfl, _, hb⟩
          have K_wr_5 : Below wr.heap.size wr w5 := below_thru K_wr_4 hb
          clear K_wr_4
          have hB5 : Below w.heap.size w w5 := below_thru hB4 hb
          have hs5 := hB5.size
          clear hB4 hs4
          clear hb
          go_wp2_with fail
          refine (Pf _ _ (HX.out.isR.below K_wr_5)).mono ?_
          rintro e w6 ⟨rfl, hb⟩
          have K_wr_6 : Below wr.heap.size wr w6 := below_thru K_wr_5 hb
          clear K_wr_5
          have hB6 : Below w.heap.size w w6 := below_thru hB5 hb
          have hs6 := hB6.size
          clear hB5 hs5
          clear hb
          go_wp2_with fail
          refine (Pg _ _ IsR.none).mono ?_
          rintro e w7 ⟨uu, rfl, _, hb⟩
          have K_wr_7 : Below wr.heap.size wr w7 := below_thru K_wr_6 hb
          clear K_wr_6
          have hB7 : Below w.heap.size w w7 := below_thru hB6 hb
          have hs7 := hB7.size
          clear hB6 hs6
          clear hb
          go_wp2_with fail
          refine (Ph _ _ IsR.none).mono ?_
          rintro e w8 ⟨uu, rfl, _, hb⟩
          have K_wr_8 : Below wr.heap.size wr w8 := below_thru K_wr_7 hb
          clear K_wr_7
          have hB8 : Below w.heap.size w w8 := below_thru hB7 hb
          have hs8 := hB8.size
          clear hB7 hs7
          clear hb
          go_wp2_with fail
          refine (Pi _ _ IsR.none).mono ?_
          rintro e w9 ⟨rfl, hb⟩
          have K_wr_9 : Below wr.heap.size wr w9 := below_thru K_wr_8 hb
          clear K_wr_8
          have hB9 : Below w.heap.size w w9 := below_thru hB8 hb
          have hs9 := hB9.size
          clear hB8 hs8
          clear hb
          go_wp2_with fail
          refine (AL _).mono ?_
          rintro e w10 ⟨rfl, hb⟩
          have K_wr_10 : Below wr.heap.size wr w10 := below_thru K_wr_9 hb
          clear K_wr_9
          have hB10 : Below w.heap.size w w10 := below_thru hB9 hb
          have hs10 := hB10.size
          clear hB9 hs9
          clear hb
          go_wp2_with fail
          refine (NW _).mono ?_
          rintro e w11 ⟨uu, rfl, ⟨_, g9, c9, rfl, _⟩, hb⟩
          have K_wr_11 : Below wr.heap.size wr w11 := below_thru K_wr_10 hb
          clear K_wr_10
          have hB11 : Below w.heap.size w w11 := below_thru hB10 hb
          have hs11 := hB11.size
          clear hB10 hs10
          clear hb
          go_wp2_with fail
          go_returns
          exact ⟨rfl, hB11⟩


end Go.Proofs.Ytalfnmlbidohcaa
