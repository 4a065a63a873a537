/-
  ArenaOrder, walked.
-/
import Derived.Test.YtepimljjbmoojaaArI
namespace Go.Proofs.Ytepimljjbmoojaa
open Go.RowKit

/-- No row of the arena lies in block b. -/
def OffA (b : Nat) (v : Value) : Prop := ∃ x y z, v = .agg #[x, y, z] ∧ x.ownBlock ≠ some b ∧ y.ownBlock ≠ some b
theorem Fresh.off {n b : Nat} {v : Value} (h : Fresh n v) (hb : b < n) : OffA b v := by
  obtain ⟨x, y, z, rfl, h1, h2⟩ := h
  exact ⟨x, y, z, rfl, fun e => by have := h1 b e; omega, fun e => by have := h2 b e; omega⟩
theorem IsR.stored {α : Type} {L : Lay α} {w W : World} {b : Nat} {vs : List Value} {v : Value} {xs : List α} (hs : Stored w b vs W) (h : IsR L w v xs) (ho : v.ownBlock ≠ some b) : IsR L W v xs := by
  obtain ⟨a, c, rfl, hi⟩ := h
  refine ⟨a, c, rfl, hi.room, hi.most, fun h0 => ?_, hi.nil⟩
  obtain ⟨b0, off, rfl, hc⟩ := hi.cells h0
  exact ⟨b0, off, rfl, fun i x hx j u hu => hs.cell _ _ _ (fun e => ho (by rw [e]; rfl)) (hc i x hx j u hu)⟩
theorem IsA.stored {w W : World} {b : Nat} {vs : List Value} {v : Value} {A : Ar} (hs : Stored w b vs W) (h : IsA w v A) (ho : OffA b v) : IsA W v A := by
  obtain ⟨x, y, rfl, h1, h2⟩ := h
  obtain ⟨x', y', z', e, o1, o2⟩ := ho
  cases e
  exact ⟨x, y, rfl, h1.stored hs o1, h2.stored hs o2⟩
theorem IsR.low {α : Type} {L : Lay α} {w : World} {v : Value} {xs : List α} (h : IsR L w v xs) (hp : 0 < xs.length) : v.ownBlock ≠ some w.heap.size := by
  obtain ⟨a, c, rfl, hi⟩ := h
  obtain ⟨b0, off, rfl, hc⟩ := hi.cells hp
  obtain ⟨u, hu⟩ : ∃ u, (L.f xs[0])[0]? = some u := ⟨_, List.getElem?_eq_getElem (by rw [L.len xs[0]]; exact L.pos)⟩
  have := lt_of_cell' (hc 0 xs[0] (List.getElem?_eq_getElem hp) 0 u hu)
  intro e
  obtain rfl : b0 = w.heap.size := by simpa [Value.ownBlock] using e
  omega
theorem IsA.low {w : World} {v : Value} {A : Ar} (h : IsA w v A) (h1 : 0 < A.nx.length) (h2 : 0 < A.us.length) : OffA w.heap.size v := by
  obtain ⟨x, y, rfl, r1, r2⟩ := h
  exact ⟨x, y, _, rfl, r1.low h1, r2.low h2⟩
theorem range_head {n k : Nat} (h : k < n) : List.range' k (n - k) = k :: List.range' (k + 1) (n - (k + 1)) := by
  obtain ⟨m, hm⟩ : ∃ m, n - k = m + 1 := ⟨n - k - 1, by omega⟩
  rw [hm, List.range'_succ, show n - (k + 1) = m by omega]

set_option maxRecDepth 100000 in
set_option maxHeartbeats 6400000 in
theorem order13_a {p : Int} (h : p < 1) (w : World) : Calls Try.prog 7 #[.int .i64 p] w fun e w' => e = .returned (.bool true) ∧ Below w.heap.size w w' := by
  have AL := fun W => alive13_is W
  have d0 : decide (p < 1) = true := decide_eq_true (by omega)
  clear h
  have hB0 := Below.refl w.heap.size w
  have hs0 := hB0.size
  go_enter Try.func7, Try.ntmps7
  go_wp2_with fail
  refine (AL _).mono ?_
  rintro e w1 ⟨rfl, hb⟩
  have hB1 : Below w.heap.size w w1 := below_thru hB0 hb
  have hs1 := hB1.size
  clear hB0 hs0
  clear hb
  go_wp2_with fail
  go_returns
  exact ⟨rfl, hB1⟩

set_option maxRecDepth 100000 in
set_option maxHeartbeats 6400000 in
theorem order13_b {p : Int} (h : 16 < p) (w : World) : Calls Try.prog 7 #[.int .i64 p] w fun e w' => e = .returned (.bool true) ∧ Below w.heap.size w w' := by
  have AL := fun W => alive13_is W
  have d0 : decide (p < 1) = false := decide_eq_false (by omega)
  have d1 : decide (16 < p) = true := decide_eq_true (by omega)
  clear h
  have hB0 := Below.refl w.heap.size w
  have hs0 := hB0.size
  go_enter Try.func7, Try.ntmps7
  go_wp2_with fail
  refine (AL _).mono ?_
  rintro e w1 ⟨rfl, hb⟩
  have hB1 : Below w.heap.size w w1 := below_thru hB0 hb
  have hs1 := hB1.size
  clear hB0 hs0
  clear hb
  go_wp2_with fail
  go_returns
  exact ⟨rfl, hB1⟩

set_option maxRecDepth 100000 in
set_option maxHeartbeats 6400000 in
theorem order13_c {n m : Nat} (hn : n = m + 1) (hm : n ≤ 16) (w : World) : Calls Try.prog 7 #[.int .i64 (n : Int)] w fun e w' => e = .returned (.bool true) ∧ Below w.heap.size w w' := by
  have AL := fun W => alive13_is W
  have NW := fun W => pnew_c hn hm W
  have HV := Lib.hid (newA_valid (n := n) (by omega) hm)
  have HN := Lib.hid (show (newA n).nx.length = n ∧ (newA n).us.length = n from ⟨by simp [newA], by simp [newA]⟩)
  have d0 : decide ((n : Int) < 1) = false := decide_eq_false (by omega); have d1 : decide (16 < (n : Int)) = false := decide_eq_false (by omega); have hn0 : 0 < n := (by omega)
  obtain ⟨A0, hA0⟩ : ∃ A, newA n = A := ⟨_, rfl⟩; rw [hA0] at NW HV HN; clear hA0 hn
  have hB0 := Below.refl w.heap.size w
  have hs0 := hB0.size
  go_enter Try.func7, Try.ntmps7
  go_wp2_with fail
  refine (AL _).mono ?_
  rintro e w1 ⟨rfl, hb⟩
  have hB1 : Below w.heap.size w w1 := below_thru hB0 hb
  have hs1 := hB1.size
  clear hB0 hs0
  clear hb
  go_upto_region 4 with fail
  clear d0 d1
  go_wp2_with fail
  refine (NW _).mono ?_
  rintro e w2 ⟨va, rfl, hI, hF, hb⟩
  obtain ⟨xa, ya, rfl, rx, ry⟩ := id hI; obtain ⟨pa, ca, rfl, hrx⟩ := id rx; obtain ⟨qa, da, rfl, hry⟩ := id ry; clear hrx hry rx ry
  have Fa := Lib.hid hF; clear hF
  have hB2 : Below w.heap.size w w2 := below_thru hB1 hb
  have hs2 := hB2.size
  clear hB1 hs1
  clear hb
  have loa := hs2
  have K_w2_2 : Below w2.heap.size w2 w2 := Below.refl _ _
  have Ia : Hid (IsA w2 (.agg [.slice pa A0.nx.length ca, .slice qa A0.us.length da, .int .i64 A0.fr].toArray) A0) := Lib.hid hI; have Oa := Lib.hid (hI.low (by rw [HN.out.1]; exact hn0) (by rw [HN.out.2]; exact hn0)); clear hI
  have d_a_0 := hs2
  go_upto_region 5 with (refine wpList_store_box (cs := [.slice pa A0.nx.length ca, .slice qa A0.us.length da, .int .i64 A0.fr]) rfl _ _ _ rfl (Box.newc (l := ar0) rfl rfl) rfl rfl (size_ar _ _ _) rfl (one_ar _ _ _ _ _ _ _) ?_; intro W2_0 hW2_0)
  have hN : Below w2.heap.size w2 W2_0 := (hW2_0.below _ _ (by omega) ((Below.refl _ w2).alloc (Nat.le_refl _) _))
  have x_a3 : Box W2_0 (w2.heap.size) ([.slice pa A0.nx.length ca, .slice qa A0.us.length da, .int .i64 A0.fr]) := hW2_0.box
  have K_w2_3 : Below w2.heap.size w2 W2_0 := below_thru K_w2_2 hN
  clear K_w2_2
  have hB3 : Below w.heap.size w W2_0 := below_thru hB2 hN
  have hs3 := hB3.size
  clear hB2 hs2
  clear hN hW2_0
  have Ga := Lib.hid (Ia.out.below K_w2_3); clear Ia
  clear K_w2_3
  go_wp2_with fail
  clear Fa
  go_loopw [6] (fun i wr => ∃ (k : Nat) (A : Ar) (p : Option Addr) (c : Nat) (q : Option Addr) (d : Nat), k ≤ n ∧ i = .int .i64 k ∧ Hid (Valid A (List.range' k (n - k))) ∧ Hid (IsA wr (.agg [.slice p A.nx.length c, .slice q A.us.length d, .int .i64 A.fr].toArray) A) ∧ Hid (OffA (w2.heap.size) (.agg [.slice p A.nx.length c, .slice q A.us.length d, .int .i64 A.fr].toArray)) ∧ Box wr (w2.heap.size) [.slice p A.nx.length c, .slice q A.us.length d, .int .i64 A.fr] ∧ Below w.heap.size w wr) (fun i _ => n - (intOf i).toNat)
  case atStart => exact ⟨0, A0, pa, ca, qa, da, Nat.zero_le _, rfl, HV, Ga, Oa, x_a3, hB3⟩
  case round =>
    clear x_a3 hB3 hs3 HV Ga Oa
    obtain ⟨k, A, p, c, q, d, hk, rfl, HA, HI, HO, x_a, hB⟩ := hrel
    by_cases hlt : k < n
    case pos =>
      have hv := HA.out; rw [range_head hlt] at hv
      obtain ⟨x, hx, _⟩ := hv.snd
      have HV2 := Lib.hid (hv.took hx)
      have TK := fun (W : World) (u : Value) (h : IsA W u A) => ptake_is (Or.inr (Or.inr ⟨rfl, k, _, x, hv, hx, rfl, rfl⟩)) W h
      obtain ⟨B, hBt⟩ : ∃ X, A.took k x = X := ⟨_, rfl⟩; rw [hBt] at TK HV2; clear hBt hv hx HA
      have i0 : (0 : Int) ≤ (k : Int) := (by omega); have i1 : (k : Int) < (n : Int) := (by omega); have k0 := bne_self_eq_false (k : Int); have lta := x_a.lt
      have x_a20 := x_a; have hB20 := hB; clear x_a hB; have hs20 := hB20.size
      go_wp2_with (refine wpList_load_box9 rfl _ _ rfl x_a20 rfl Try.underlying25 rfl (size_ar _ _ _) ?_)
      refine (TK _ _ HI.out).mono ?_
      rintro e w21 ⟨vb, rfl, hI, hF, hb⟩
      obtain ⟨xb, yb, rfl, rx, ry⟩ := id hI; obtain ⟨pb, cb, rfl, hrx⟩ := id rx; obtain ⟨qb, db, rfl, hry⟩ := id ry; clear hrx hry rx ry
      have Fb := Lib.hid hF; clear hF
      have hB21 : Below w.heap.size w w21 := below_thru hB20 hb
      have hs21 := hB21.size
      have x_a21 : Box w21 (w2.heap.size) ([.slice p A.nx.length c, .slice q A.us.length d, .int .i64 A.fr]) := Box.below x_a20 hb
      clear hB20 hs20 x_a20
      clear hb
      have lob := hs21
      have K_w21_21 : Below w21.heap.size w21 w21 := Below.refl _ _
      have Ib : Hid (IsA w21 (.agg [.slice pb B.nx.length cb, .slice qb B.us.length db, .int .i64 B.fr].toArray) B) := Lib.hid hI; clear hI
      have d_b_a := (x_a21).lt
      have d_b_0 := hs21
      go_upto_region 9 with (refine wpList_store_box (cs := [.slice pb B.nx.length cb, .slice qb B.us.length db, .int .i64 B.fr]) rfl _ _ _ rfl (Box.newc (l := ar0) rfl rfl) rfl rfl (size_ar _ _ _) rfl (one_ar _ _ _ _ _ _ _) ?_; intro W21_0 hW21_0)
      have hN : Below w21.heap.size w21 W21_0 := (hW21_0.below _ _ (by omega) ((Below.refl _ w21).alloc (Nat.le_refl _) _))
      have x_b22 : Box W21_0 (w21.heap.size) ([.slice pb B.nx.length cb, .slice qb B.us.length db, .int .i64 B.fr]) := hW21_0.box
      have K_w21_22 : Below w21.heap.size w21 W21_0 := below_thru K_w21_21 hN
      clear K_w21_21
      have hB22 : Below w.heap.size w W21_0 := below_thru hB21 hN
      have hs22 := hB22.size
      have x_a22 : Box W21_0 (w2.heap.size) ([.slice p A.nx.length c, .slice q A.us.length d, .int .i64 A.fr]) := Box.below x_a21 hN
      clear hB21 hs21 x_a21
      clear hN hW21_0
      have Gb := Lib.hid (Ib.out.below K_w21_22); clear Ib
      clear K_w21_22
      have OB := Lib.hid (Fb.out.off lta); clear Fb
      go_upto_region 11 with fail
      have xl := x_b22.lt
      go_upto_region 7 with (first | (refine wpList_load_box9 rfl _ _ rfl x_b22 rfl Try.underlying25 rfl (size_ar _ _ _) ?_) | (refine wpList_store_box (cs := [.slice pb B.nx.length cb, .slice qb B.us.length db, .int .i64 B.fr]) rfl _ _ _ rfl x_a22 rfl rfl (size_ar _ _ _) rfl (one_ar _ _ _ _ _ _ _) ?_; intro W8 hW8))
      have HI8 := Lib.hid (IsA.stored hW8 Gb.out OB.out); have x_a8 := hW8.box; have hB8 := hW8.below _ _ (by omega) hB22; clear hW8
      go_wp2_with fail
      go_roundw
      case rel => exact ⟨k + 1, B, pb, cb, qb, db, by omega, by go_num, HV2, HI8, OB, x_a8, hB8⟩
      case measure => simp [intOf]; omega
    case neg =>
      have hd : decide ((k : Int) < (n : Int)) = false := decide_eq_false (by omega)
      have hv := HA.out; rw [show n - k = 0 by omega] at hv
      have TK := fun (W : World) (u : Value) (h : IsA W u A) => ptake_is (Or.inr (Or.inl ⟨rfl, hv, rfl, rfl⟩)) W h
      clear hv HA
      have x_a20 := x_a; have hB20 := hB; clear x_a hB; have hs20 := hB20.size
      go_wp2_with (refine wpList_load_box9 rfl _ _ rfl x_a20 rfl Try.underlying25 rfl (size_ar _ _ _) ?_)
      refine (TK _ _ HI.out).mono ?_
      rintro e w21 ⟨vz, rfl, hI, hF, hb⟩
      obtain ⟨xz, yz, rfl, rx, ry⟩ := id hI; obtain ⟨pz, cz, rfl, hrx⟩ := id rx; obtain ⟨qz, dz, rfl, hry⟩ := id ry; clear hrx hry rx ry
      have Fz := Lib.hid hF; clear hF
      have hB21 : Below w.heap.size w w21 := below_thru hB20 hb
      have hs21 := hB21.size
      have x_a21 : Box w21 (w2.heap.size) ([.slice p A.nx.length c, .slice q A.us.length d, .int .i64 A.fr]) := Box.below x_a20 hb
      clear hB20 hs20 x_a20
      clear hb
      have loz := hs21
      have K_w21_21 : Below w21.heap.size w21 w21 := Below.refl _ _
      have Iz : Hid (IsA w21 (.agg [.slice pz Ar.zero.nx.length cz, .slice qz Ar.zero.us.length dz, .int .i64 Ar.zero.fr].toArray) Ar.zero) := Lib.hid hI; clear hI
      have d_z_a := (x_a21).lt
      have d_z_0 := hs21
      go_upto_region 13 with (refine wpList_store_box (cs := [.slice pz Ar.zero.nx.length cz, .slice qz Ar.zero.us.length dz, .int .i64 Ar.zero.fr]) rfl _ _ _ rfl (Box.newc (l := ar0) rfl rfl) rfl rfl (size_ar _ _ _) rfl (one_ar _ _ _ _ _ _ _) ?_; intro W21_0 hW21_0)
      have hN : Below w21.heap.size w21 W21_0 := (hW21_0.below _ _ (by omega) ((Below.refl _ w21).alloc (Nat.le_refl _) _))
      have x_z22 : Box W21_0 (w21.heap.size) ([.slice pz Ar.zero.nx.length cz, .slice qz Ar.zero.us.length dz, .int .i64 Ar.zero.fr]) := hW21_0.box
      have K_w21_22 : Below w21.heap.size w21 W21_0 := below_thru K_w21_21 hN
      clear K_w21_21
      have hB22 : Below w.heap.size w W21_0 := below_thru hB21 hN
      have hs22 := hB22.size
      have x_a22 : Box W21_0 (w2.heap.size) ([.slice p A.nx.length c, .slice q A.us.length d, .int .i64 A.fr]) := Box.below x_a21 hN
      clear hB21 hs21 x_a21
      clear hN hW21_0
      have Gz := Lib.hid (Iz.out.below K_w21_22); clear Iz
      clear K_w21_22
      go_wp2_with fail
      go_returns
      exact ⟨rfl, hB22⟩

theorem order13_is {p : Int} (w : World) : Calls Try.prog 7 #[.int .i64 p] w fun e w' => e = .returned (.bool true) ∧ Below w.heap.size w w' := by
  by_cases h : p < 1
  · exact order13_a h w
  · by_cases h2 : 16 < p
    · exact order13_b h2 w
    · obtain ⟨n, rfl⟩ : ∃ n : Nat, p = n := ⟨p.toNat, by omega⟩
      exact order13_c (m := n - 1) (by omega) (by omega) w

end Go.Proofs.Ytepimljjbmoojaa
