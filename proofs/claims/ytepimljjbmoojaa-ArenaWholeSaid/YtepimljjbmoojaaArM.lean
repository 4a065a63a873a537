/-
  ArenaWhole, walked.
-/
import Derived.Test.YtepimljjbmoojaaArL
namespace Go.Proofs.Ytepimljjbmoojaa
open Go.RowKit

/-- The place that was given back last is the first free one. -/
def Giv (g : Int) (fl : List Nat) : Prop := g = -1 ∨ ∃ (j : Nat) (r : List Nat), g = j ∧ fl = j :: r
theorem same_bool (b : Bool) : (b == b) = true := by cases b <;> rfl

set_option maxRecDepth 100000 in
set_option maxHeartbeats 6400000 in
theorem whole13_a {v : Value} {ls : List Int} {p : Int} (h : p < 1) (w : World) (h1 : IsR LI w v ls) : Calls Try.prog 5 #[.int .i64 p, v] w fun e w' => e = .returned (.bool true) ∧ Below w.heap.size w w' := by
  obtain ⟨al, cl, rfl, hrl⟩ := id h1
  have ml := hrl.most; have rl := hrl.room; have H1 := Lib.hid h1; clear hrl h1
  have AL := fun W => alive13_is W
  have NW := fun W => pnew_a h W
  have d0 : decide (p < 1) = true := decide_eq_true (by omega)
  have d1 : decide (16 < p) = false := decide_eq_false (by omega)
  clear h H1
  have hB0 := Below.refl w.heap.size w
  have hs0 := hB0.size
  go_enter Try.func5, Try.ntmps5
  go_wp2_with fail
  refine (AL _).mono ?_
  rintro e w1 ⟨rfl, hb⟩
  have hB1 : Below w.heap.size w w1 := below_thru hB0 hb
  have hs1 := hB1.size
  clear hB0 hs0
  clear hb
  go_wp2_with fail
  refine (NW _).mono ?_
  rintro e w2 ⟨va, rfl, hI, hF, hb⟩
  obtain ⟨xa, ya, rfl, rx, ry⟩ := id hI; obtain ⟨pa, ca, rfl, hrx⟩ := id rx; obtain ⟨qa, da, rfl, hry⟩ := id ry; clear hrx hry rx ry
  have Fa := Lib.hid hF; clear hF
  have hB2 : Below w.heap.size w w2 := below_thru hB1 hb
  have hs2 := hB2.size
  clear hB1 hs1
  clear hb
  have loa := hs2
  have K_w2_2 : Below w2.heap.size w2 w2 := Below.refl _ _
  have Ia : Hid (IsA w2 (.agg [.slice pa Ar.zero.nx.length ca, .slice qa Ar.zero.us.length da, .int .i64 Ar.zero.fr].toArray) Ar.zero) := Lib.hid hI; clear hI
  have d_a_0 := hs2
  go_upto_region 3 with (refine wpList_store_box (cs := [.slice pa Ar.zero.nx.length ca, .slice qa Ar.zero.us.length da, .int .i64 Ar.zero.fr]) rfl _ _ _ rfl (Box.newc (l := ar0) rfl rfl) rfl rfl (size_ar _ _ _) rfl (one_ar _ _ _ _ _ _ _) ?_; intro W2_0 hW2_0)
  have hN : Below w2.heap.size w2 W2_0 := (hW2_0.below _ _ (by omega) ((Below.refl _ w2).alloc (Nat.le_refl _) _))
  have x_a3 : Box W2_0 (w2.heap.size) ([.slice pa Ar.zero.nx.length ca, .slice qa Ar.zero.us.length da, .int .i64 Ar.zero.fr]) := hW2_0.box
  have K_w2_3 : Below w2.heap.size w2 W2_0 := below_thru K_w2_2 hN
  clear K_w2_2
  have hB3 : Below w.heap.size w W2_0 := below_thru hB2 hN
  have hs3 := hB3.size
  clear hB2 hs2
  clear hN hW2_0
  have Ga := Lib.hid (Ia.out.below K_w2_3); clear Ia
  clear K_w2_3
  go_wp2_with fail
  go_returns
  exact ⟨rfl, hB3⟩

set_option maxRecDepth 100000 in
set_option maxHeartbeats 6400000 in
theorem whole13_b {v : Value} {ls : List Int} {p : Int} (h : 16 < p) (w : World) (h1 : IsR LI w v ls) : Calls Try.prog 5 #[.int .i64 p, v] w fun e w' => e = .returned (.bool true) ∧ Below w.heap.size w w' := by
  obtain ⟨al, cl, rfl, hrl⟩ := id h1
  have ml := hrl.most; have rl := hrl.room; have H1 := Lib.hid h1; clear hrl h1
  have AL := fun W => alive13_is W
  have NW := fun W => pnew_b h W
  have d0 : decide (p < 1) = false := decide_eq_false (by omega)
  have d1 : decide (16 < p) = true := decide_eq_true (by omega)
  clear h H1
  have hB0 := Below.refl w.heap.size w
  have hs0 := hB0.size
  go_enter Try.func5, Try.ntmps5
  go_wp2_with fail
  refine (AL _).mono ?_
  rintro e w1 ⟨rfl, hb⟩
  have hB1 : Below w.heap.size w w1 := below_thru hB0 hb
  have hs1 := hB1.size
  clear hB0 hs0
  clear hb
  go_wp2_with fail
  refine (NW _).mono ?_
  rintro e w2 ⟨va, rfl, hI, hF, hb⟩
  obtain ⟨xa, ya, rfl, rx, ry⟩ := id hI; obtain ⟨pa, ca, rfl, hrx⟩ := id rx; obtain ⟨qa, da, rfl, hry⟩ := id ry; clear hrx hry rx ry
  have Fa := Lib.hid hF; clear hF
  have hB2 : Below w.heap.size w w2 := below_thru hB1 hb
  have hs2 := hB2.size
  clear hB1 hs1
  clear hb
  have loa := hs2
  have K_w2_2 : Below w2.heap.size w2 w2 := Below.refl _ _
  have Ia : Hid (IsA w2 (.agg [.slice pa Ar.zero.nx.length ca, .slice qa Ar.zero.us.length da, .int .i64 Ar.zero.fr].toArray) Ar.zero) := Lib.hid hI; clear hI
  have d_a_0 := hs2
  go_upto_region 3 with (refine wpList_store_box (cs := [.slice pa Ar.zero.nx.length ca, .slice qa Ar.zero.us.length da, .int .i64 Ar.zero.fr]) rfl _ _ _ rfl (Box.newc (l := ar0) rfl rfl) rfl rfl (size_ar _ _ _) rfl (one_ar _ _ _ _ _ _ _) ?_; intro W2_0 hW2_0)
  have hN : Below w2.heap.size w2 W2_0 := (hW2_0.below _ _ (by omega) ((Below.refl _ w2).alloc (Nat.le_refl _) _))
  have x_a3 : Box W2_0 (w2.heap.size) ([.slice pa Ar.zero.nx.length ca, .slice qa Ar.zero.us.length da, .int .i64 Ar.zero.fr]) := hW2_0.box
  have K_w2_3 : Below w2.heap.size w2 W2_0 := below_thru K_w2_2 hN
  clear K_w2_2
  have hB3 : Below w.heap.size w W2_0 := below_thru hB2 hN
  have hs3 := hB3.size
  clear hB2 hs2
  clear hN hW2_0
  have Ga := Lib.hid (Ia.out.below K_w2_3); clear Ia
  clear K_w2_3
  go_wp2_with fail
  go_returns
  exact ⟨rfl, hB3⟩

set_option maxRecDepth 100000 in
set_option maxHeartbeats 6400000 in
theorem whole13_c {v : Value} {ls : List Int} {n m : Nat} (hn : n = m + 1) (hm : n ≤ 16) (hl : 60 < ls.length) (w : World) (h1 : IsR LI w v ls) : Calls Try.prog 5 #[.int .i64 (n : Int), v] w fun e w' => e = .returned (.bool true) ∧ Below w.heap.size w w' := by
  obtain ⟨al, cl, rfl, hrl⟩ := id h1
  have ml := hrl.most; have rl := hrl.room; have H1 := Lib.hid h1; clear hrl h1
  have AL := fun W => alive13_is W
  have NW := fun W => pnew_c hn hm W
  have HV := Lib.hid (newA_valid (n := n) (by omega) hm)
  have HN := Lib.hid (show (newA n).nx.length = n ∧ (newA n).us.length = n from ⟨by simp [newA], by simp [newA]⟩)
  have HM := Lib.hid (mark_new n)
  have d0 : decide ((n : Int) < 1) = false := decide_eq_false (by omega); have d1 : decide (16 < (n : Int)) = false := decide_eq_false (by omega); have d2 : decide (60 < (ls.length : Int)) = true := decide_eq_true (by omega); have hn0 : 0 < n := (by omega)
  obtain ⟨A0, hA0⟩ : ∃ A, newA n = A := ⟨_, rfl⟩; rw [hA0] at NW HV HN HM; clear hA0 hn
  have hB0 := Below.refl w.heap.size w
  have hs0 := hB0.size
  go_enter Try.func5, Try.ntmps5
  go_wp2_with fail
  refine (AL _).mono ?_
  rintro e w1 ⟨rfl, hb⟩
  have hB1 : Below w.heap.size w w1 := below_thru hB0 hb
  have hs1 := hB1.size
  clear hB0 hs0
  clear hb
  go_wp2_with fail
  refine (NW _).mono ?_
  rintro e w2 ⟨va, rfl, hI, hF, hb⟩
  obtain ⟨xa, ya, rfl, rx, ry⟩ := id hI; obtain ⟨pa, ca, rfl, hrx⟩ := id rx; obtain ⟨qa, da, rfl, hry⟩ := id ry; clear hrx hry rx ry
  have Fa := Lib.hid hF; clear hF
  have hB2 : Below w.heap.size w w2 := below_thru hB1 hb
  have hs2 := hB2.size
  clear hB1 hs1
  clear hb
  have loa := hs2
  have K_w2_2 : Below w2.heap.size w2 w2 := Below.refl _ _
  have Ia : Hid (IsA w2 (.agg [.slice pa A0.nx.length ca, .slice qa A0.us.length da, .int .i64 A0.fr].toArray) A0) := Lib.hid hI; have Oa := Lib.hid (hI.low (by rw [HN.out.1]; exact hn0) (by rw [HN.out.2]; exact hn0)); clear hI
  have d_a_0 := hs2
  go_upto_region 3 with (refine wpList_store_box (cs := [.slice pa A0.nx.length ca, .slice qa A0.us.length da, .int .i64 A0.fr]) rfl _ _ _ rfl (Box.newc (l := ar0) rfl rfl) rfl rfl (size_ar _ _ _) rfl (one_ar _ _ _ _ _ _ _) ?_; intro W2_0 hW2_0)
  have hN : Below w2.heap.size w2 W2_0 := (hW2_0.below _ _ (by omega) ((Below.refl _ w2).alloc (Nat.le_refl _) _))
  have x_a3 : Box W2_0 (w2.heap.size) ([.slice pa A0.nx.length ca, .slice qa A0.us.length da, .int .i64 A0.fr]) := hW2_0.box
  have K_w2_3 : Below w2.heap.size w2 W2_0 := below_thru K_w2_2 hN
  clear K_w2_2
  have hB3 : Below w.heap.size w W2_0 := below_thru hB2 hN
  have hs3 := hB3.size
  clear hB2 hs2
  clear hN hW2_0
  have Ga := Lib.hid (Ia.out.below K_w2_3); clear Ia
  clear K_w2_3
  clear Fa HV HM
  go_wp2_with fail
  go_returns
  exact ⟨rfl, hB3⟩

set_option maxRecDepth 100000 in
set_option maxHeartbeats 6400000 in
theorem whole13_d {v : Value} {ls : List Int} {n m : Nat} (hn : n = m + 1) (hm : n ≤ 16) (hl : ls.length ≤ 60) (w : World) (h1 : IsR LI w v ls) : Calls Try.prog 5 #[.int .i64 (n : Int), v] w fun e w' => e = .returned (.bool true) ∧ Below w.heap.size w w' := by
  obtain ⟨al, cl, rfl, hrl⟩ := id h1
  have ml := hrl.most; have rl := hrl.room; have H1 := Lib.hid h1; clear hrl h1
  have AL := fun W => alive13_is W
  have NW := fun W => pnew_c hn hm W
  have HV := Lib.hid (newA_valid (n := n) (by omega) hm)
  have HN := Lib.hid (show (newA n).nx.length = n ∧ (newA n).us.length = n from ⟨by simp [newA], by simp [newA]⟩)
  have HM := Lib.hid (mark_new n)
  have d0 : decide ((n : Int) < 1) = false := decide_eq_false (by omega); have d1 : decide (16 < (n : Int)) = false := decide_eq_false (by omega); have d2 : decide (60 < (ls.length : Int)) = false := decide_eq_false (by omega); have hn0 : 0 < n := (by omega)
  have MB := fun W => make_bools n (by omega) W
  obtain ⟨A0, hA0⟩ : ∃ A, newA n = A := ⟨_, rfl⟩; rw [hA0] at NW HV HN HM; clear hA0 hn
  have hB0 := Below.refl w.heap.size w
  have hs0 := hB0.size
  go_enter Try.func5, Try.ntmps5
  go_wp2_with fail
  refine (AL _).mono ?_
  rintro e w1 ⟨rfl, hb⟩
  have hB1 : Below w.heap.size w w1 := below_thru hB0 hb
  have hs1 := hB1.size
  clear hB0 hs0
  clear hb
  go_wp2_with fail
  refine (NW _).mono ?_
  rintro e w2 ⟨va, rfl, hI, hF, hb⟩
  obtain ⟨xa, ya, rfl, rx, ry⟩ := id hI; obtain ⟨pa, ca, rfl, hrx⟩ := id rx; obtain ⟨qa, da, rfl, hry⟩ := id ry; clear hrx hry rx ry
  have Fa := Lib.hid hF; clear hF
  have hB2 : Below w.heap.size w w2 := below_thru hB1 hb
  have hs2 := hB2.size
  clear hB1 hs1
  clear hb
  have loa := hs2
  have K_w2_2 : Below w2.heap.size w2 w2 := Below.refl _ _
  have Ia : Hid (IsA w2 (.agg [.slice pa A0.nx.length ca, .slice qa A0.us.length da, .int .i64 A0.fr].toArray) A0) := Lib.hid hI; have Oa := Lib.hid (hI.low (by rw [HN.out.1]; exact hn0) (by rw [HN.out.2]; exact hn0)); clear hI
  have d_a_0 := hs2
  go_upto_region 3 with (refine wpList_store_box (cs := [.slice pa A0.nx.length ca, .slice qa A0.us.length da, .int .i64 A0.fr]) rfl _ _ _ rfl (Box.newc (l := ar0) rfl rfl) rfl rfl (size_ar _ _ _) rfl (one_ar _ _ _ _ _ _ _) ?_; intro W2_0 hW2_0)
  have hN : Below w2.heap.size w2 W2_0 := (hW2_0.below _ _ (by omega) ((Below.refl _ w2).alloc (Nat.le_refl _) _))
  have x_a3 : Box W2_0 (w2.heap.size) ([.slice pa A0.nx.length ca, .slice qa A0.us.length da, .int .i64 A0.fr]) := hW2_0.box
  have K_w2_3 : Below w2.heap.size w2 W2_0 := below_thru K_w2_2 hN
  clear K_w2_2
  have hB3 : Below w.heap.size w W2_0 := below_thru hB2 hN
  have hs3 := hB3.size
  clear hB2 hs2
  clear hN hW2_0
  have Ga := Lib.hid (Ia.out.below K_w2_3); clear Ia
  clear K_w2_3
  go_upto_region 6 with fail
  clear d0 d1 d2 Fa
  have Lx := Lib.hid (x_a3.lt)
  refine F_gen (F := fun W => Code.wp _ _ _ _ W) (J := fun W => Hid (IsA W (.agg [.slice pa A0.nx.length ca, .slice qa A0.us.length da, .int .i64 A0.fr].toArray) A0) ∧ Hid (OffA (W2_0.heap.size) (.agg [.slice pa A0.nx.length ca, .slice qa A0.us.length da, .int .i64 A0.fr].toArray)) ∧ Box W (w2.heap.size) ([.slice pa A0.nx.length ca, .slice qa A0.us.length da, .int .i64 A0.fr]) ∧ Box W (W2_0.heap.size) (mark n []) ∧ Below w.heap.size w W) (And.intro (Lib.hid (Ga.out.alloc _)) (And.intro (Lib.hid (Ga.out.low (by rw [HN.out.1]; exact hn0) (by rw [HN.out.2]; exact hn0))) (And.intro (x_a3.alloc _) (And.intro (Box.newc (l := mark n []) rfl rfl) (hB3.alloc (by first | exact hs3 | (simp; omega)) _))))) ?_
  intro w4 ⟨Gb, Ob, x_a4, x_u4, hB4⟩
  clear Ga
  clear x_a3 hB3 hs3
  have hs4 := hB4.size
  have lou : w2.heap.size < W2_0.heap.size := Lx.out; clear Lx
  rw [HM.out] at x_u4; clear HM MB
  go_wp2_with fail
  go_loopw [9, 10] (fun g9 i wr => ∃ (k : Nat) (A : Ar) (fl : List Nat) (g : Int) (p : Option Addr) (c : Nat) (q : Option Addr) (d : Nat), k ≤ ls.length ∧ i = .int .i64 k ∧ g9 = .int .i64 g ∧ Hid (Valid A fl) ∧ Hid (A.nx.length = n) ∧ Hid (Giv g fl) ∧ Hid (IsA wr (.agg [.slice p A.nx.length c, .slice q A.us.length d, .int .i64 A.fr].toArray) A) ∧ Hid (OffA (w2.heap.size) (.agg [.slice p A.nx.length c, .slice q A.us.length d, .int .i64 A.fr].toArray)) ∧ Hid (OffA (W2_0.heap.size) (.agg [.slice p A.nx.length c, .slice q A.us.length d, .int .i64 A.fr].toArray)) ∧ Box wr (w2.heap.size) [.slice p A.nx.length c, .slice q A.us.length d, .int .i64 A.fr] ∧ Box wr (W2_0.heap.size) (A.us.map Value.bool) ∧ Below w.heap.size w wr) (fun _ i _ => ls.length - (intOf i).toNat)
  case atStart => exact ⟨0, A0, _, -1, pa, ca, qa, da, Nat.zero_le _, rfl, rfl, HV, Lib.hid HN.out.1, Lib.hid (Or.inl rfl), Gb, Oa, Ob, x_a4, x_u4, hB4⟩
  case round =>
    clear x_a4 x_u4 hB4 hs4 HV HN Gb Oa Ob
    obtain ⟨k, A, fl, g, p, c, q, d, hk, rfl, rfl, HV, HN, HG, HI, HO, HP, x_a, x_u, hB⟩ := hrel
    by_cases hlt : k < ls.length
    case neg =>
      have hd : decide ((k : Int) < (ls.length : Int)) = false := decide_eq_false (by omega)
      clear HV HN HG HI HO HP H1
      go_wp2_with fail
      go_returns
      exact ⟨rfl, hB⟩
    case pos =>
      obtain ⟨z, hz⟩ : ∃ x, ls[k]? = some x := ⟨_, List.getElem?_eq_getElem hlt⟩
      obtain ⟨b1, o1, rfl, e1⟩ := H1.out.getI hz
      have HZ := Lib.hid e1; clear e1 hz
      have i0 : (0 : Int) ≤ (k : Int) := (by omega); have i1 : (k : Int) < (ls.length : Int) := (by omega)
      have HU := Lib.hid (show A.us.length = n by rw [HV.out.len, HN.out]); have HC := Lib.hid HV.out.count
      obtain ⟨V, rfl⟩ : ∃ u : World, u = wr := ⟨_, rfl⟩
      have zu := x_u.lt; have za := x_a.lt; have hs := hB.size
      go_wp2_with fail
      go_loopw [11, 12] (fun c11 i wy => ∃ j : Nat, j ≤ n ∧ i = .int .i64 j ∧ c11 = .int .i64 (cntT A.us j : Nat) ∧ wy = V) (fun _ i _ => n - (intOf i).toNat)
      case atStart => exact ⟨0, Nat.zero_le _, rfl, by rw [cntT_zero]; rfl, rfl⟩
      case round =>
        obtain ⟨j, hj, rfl, rfl, rfl⟩ := hrel
        by_cases hjn : j < n
        case pos =>
          obtain ⟨u, hu⟩ : ∃ u, A.us[j]? = some u := ⟨_, List.getElem?_eq_getElem (by rw [HU.out]; exact hjn)⟩
          have f2 := x_u.c j (.bool u) (by rw [List.getElem?_map, hu]; rfl)
          have j0 : (0 : Int) ≤ (j : Int) := (by omega); have j1 : (j : Int) < (n : Int) := (by omega)
          have HS := Lib.hid (cntT_succ hu)
          have W1 : IntKind.i64.wrap ((cntT A.us j : Int) + 1) = ((cntT A.us j + 1 : Nat) : Int) := by rw [IntKind.wrap_i64]; have := cntT_le A.us j; omega
          clear hu
          cases u with
          | true =>
            go_wp2_with fail
            go_roundw
            case rel => exact ⟨j + 1, by omega, by go_num, by rw [HS.out]; rfl, trivial⟩
            case measure => simp [intOf]; omega
          | false =>
            go_wp2_with fail
            go_roundw
            case rel => exact ⟨j + 1, by omega, by go_num, by rw [HS.out]; rfl, trivial⟩
            case measure => simp [intOf]; omega
        case neg =>
          have hd : decide ((j : Int) < (n : Int)) = false := decide_eq_false (by omega)
          have hc := cntT_all (us := A.us) (k := j) (by rw [HU.out]; omega)
          rw [hc]
          clear hc
          have CN := fun (W : World) (u : Value) (h : IsA W u A) => pcount_b HV.out W h; have CK := fun (W : World) (u : Value) (h : IsA W u A) => rchk_is W h (ChkA.good HV.out)
          obtain ⟨cn, hcn⟩ : ∃ cn, A.us.count true = cn := ⟨_, rfl⟩; rw [hcn] at CN HC ⊢; clear hcn
          have W2 : IntKind.i64.wrap ((n : Int) - (cn : Int)) = ((fl.length : Nat) : Int) := by rw [IntKind.wrap_i64]; have := HC.out; have := HN.out; omega
          have x_a20 := x_a; have x_u20 := x_u; have hB20 := hB; clear x_a x_u hB za zu hs; have hs20 := hB20.size
          have K_wr_20 : Below wr.heap.size wr wr := Below.refl _ _
          go_wp2_with (refine wpList_load_box9 rfl _ _ rfl x_a20 rfl Try.underlying25 rfl (size_ar _ _ _) ?_)
          refine (CN _ _ HI.out).mono ?_
          rintro e w21 ⟨rfl, hb⟩
          have K_wr_21 : Below wr.heap.size wr w21 := below_thru K_wr_20 hb
          clear K_wr_20
          have hB21 : Below w.heap.size w w21 := below_thru hB20 hb
          have hs21 := hB21.size
          have x_a21 : Box w21 (w2.heap.size) ([.slice p A.nx.length c, .slice q A.us.length d, .int .i64 A.fr]) := Box.below x_a20 hb
          have x_u21 : Box w21 (W2_0.heap.size) (A.us.map Value.bool) := Box.below x_u20 hb
          clear hB20 hs20 x_a20 x_u20
          clear hb
          go_wp2_with (refine wpList_load_box9 rfl _ _ rfl x_a21 rfl Try.underlying25 rfl (size_ar _ _ _) ?_)
          refine (CK _ _ (HI.out.below K_wr_21)).mono ?_
          rintro e w22 ⟨rfl, hb⟩
          have K_wr_22 : Below wr.heap.size wr w22 := below_thru K_wr_21 hb
          clear K_wr_21
          have hB22 : Below w.heap.size w w22 := below_thru hB21 hb
          have hs22 := hB22.size
          have x_a22 : Box w22 (w2.heap.size) ([.slice p A.nx.length c, .slice q A.us.length d, .int .i64 A.fr]) := Box.below x_a21 hb
          have x_u22 : Box w22 (W2_0.heap.size) (A.us.map Value.bool) := Box.below x_u21 hb
          clear hB21 hs21 x_a21 x_u21
          clear hb
          go_upto_region 19 with fail
          clear hd W2 hjn hj
          have z1 := cell_below hB22 HZ.out; have zz := lt_of_cell z1
          go_upto_region 20 with fail
          clear z1 zz
          obtain ⟨bb, hbb⟩ := bool_of (∃ jj : Nat, z = jj ∧ jj < n ∧ A.us[jj]? = some true)
          go_cut [119] (fun p wx => p = .bool bb ∧ wx = w22)
          case first =>
            have ltu := x_u22.lt
            by_cases hz0 : z < 0
            case pos =>
              have e0 : decide (0 ≤ z) = false := decide_eq_false (by omega)
              have HX := Lib.hid (show false = bb from (bool_eq12 hbb (c := false) ⟨fun h => (Bool.false_ne_true h).elim, fun ⟨jj, h, _⟩ => by omega⟩).symm)
              clear hbb
              go_wp2_with fail
              go_meet
              exact ⟨congrArg Value.bool HX.out, rfl⟩
            case neg =>
              have e0 : decide (0 ≤ z) = true := decide_eq_true (by omega)
              by_cases hzn : (n : Int) ≤ z
              case pos =>
                have e1 : decide (z < (n : Int)) = false := decide_eq_false (by omega)
                have HX := Lib.hid (show false = bb from (bool_eq12 hbb (c := false) ⟨fun h => (Bool.false_ne_true h).elim, fun ⟨jj, h, h2, _⟩ => by omega⟩).symm)
                clear hbb
                go_wp2_with fail
                go_meet
                exact ⟨congrArg Value.bool HX.out, rfl⟩
              case neg =>
                have e1 : decide (z < (n : Int)) = true := decide_eq_true (by omega)
                obtain ⟨jj, rfl⟩ : ∃ jj : Nat, z = (jj : Int) := ⟨z.toNat, by omega⟩
                have hjj : jj < n := by omega
                obtain ⟨u, hu⟩ : ∃ u, A.us[jj]? = some u := ⟨_, List.getElem?_eq_getElem (by rw [HU.out]; exact hjj)⟩
                have f2 := x_u22.c jj (.bool u) (by rw [List.getElem?_map, hu]; rfl)
                have HX := Lib.hid (show u = bb from (bool_eq12 hbb (c := u) ⟨fun h => ⟨jj, rfl, hjj, by rw [hu, h]⟩, fun ⟨j2, h, _, h3⟩ => by
                  obtain rfl : jj = j2 := by omega
                  rw [hu] at h3
                  simpa using h3⟩).symm)
                clear hbb hu
                have j0 : (0 : Int) ≤ (jj : Int) := (by omega); have j1 : (jj : Int) < (n : Int) := (by omega)
                go_wp2_with fail
                go_meet
                exact ⟨congrArg Value.bool HX.out, rfl⟩
          case rest =>
            obtain ⟨rfl, rfl⟩ := hcut
            cases bb with
            | true =>
              obtain ⟨jj, rfl, hjj, hu⟩ := hbb.1 rfl
              have hvg := (HV.out.gave (by rw [HN.out]; exact hjj) hu).2; have HV2 := Lib.hid hvg; have HN2 := Lib.hid (show (A.gave jj).nx.length = n by simp [Ar.gave]; exact HN.out)
              have GV := fun (W : World) (u : Value) (h : IsA W u A) => pgive_is (p := (jj : Int)) (Or.inr ⟨fl, HV.out, Or.inr ⟨jj, rfl, by rw [HN.out]; exact hjj, Or.inr ⟨rfl, hu, rfl⟩⟩⟩) W h
              have NS := Lib.hid (show (A.gave jj).us.map Value.bool = (A.us.map Value.bool).set jj (.bool false) by unfold Ar.gave; exact set_bools _ _ _); have NL := Lib.hid (show jj < (A.us.map Value.bool).length by rw [List.length_map, HU.out]; exact hjj)
              obtain ⟨B, hBt⟩ : ∃ X, A.gave jj = X := ⟨_, rfl⟩; rw [hBt] at GV HV2 HN2 NS; clear hBt hvg hu hbb HV HN HG
              have j0 : (0 : Int) ≤ (jj : Int) := (by omega); have j1 : (jj : Int) < (n : Int) := (by omega); have lta := x_a22.lt; have ltu := x_u22.lt
              have GI := Lib.hid (HI.out.below K_wr_22)
              clear K_wr_22
              go_wp2_with (refine wpList_load_box9 rfl _ _ rfl x_a22 rfl Try.underlying25 rfl (size_ar _ _ _) ?_)
              refine (GV _ _ GI.out).mono ?_
              rintro e w23 ⟨vb, rfl, hI, hF, hb⟩
              obtain ⟨xb, yb, rfl, rx, ry⟩ := id hI; obtain ⟨pb, cb, rfl, hrx⟩ := id rx; obtain ⟨qb, db, rfl, hry⟩ := id ry; clear hrx hry rx ry
              have Fb := Lib.hid hF; clear hF
              have hB23 : Below w.heap.size w w23 := below_thru hB22 hb
              have hs23 := hB23.size
              have x_a23 : Box w23 (w2.heap.size) ([.slice p A.nx.length c, .slice q A.us.length d, .int .i64 A.fr]) := Box.below x_a22 hb
              have x_u23 : Box w23 (W2_0.heap.size) (A.us.map Value.bool) := Box.below x_u22 hb
              clear hB22 hs22 x_a22 x_u22
              clear hb
              have lob := hs23
              have K_w23_23 : Below w23.heap.size w23 w23 := Below.refl _ _
              have Ib : Hid (IsA w23 (.agg [.slice pb B.nx.length cb, .slice qb B.us.length db, .int .i64 B.fr].toArray) B) := Lib.hid hI; clear hI
              have d_b_a := (x_a23).lt
              have d_b_u := (x_u23).lt
              have d_b_0 := hs23
              go_upto_region 22 with (refine wpList_store_box (cs := [.slice pb B.nx.length cb, .slice qb B.us.length db, .int .i64 B.fr]) rfl _ _ _ rfl (Box.newc (l := ar0) rfl rfl) rfl rfl (size_ar _ _ _) rfl (one_ar _ _ _ _ _ _ _) ?_; intro W23_0 hW23_0)
              have hN : Below w23.heap.size w23 W23_0 := (hW23_0.below _ _ (by omega) ((Below.refl _ w23).alloc (Nat.le_refl _) _))
              have x_b24 : Box W23_0 (w23.heap.size) ([.slice pb B.nx.length cb, .slice qb B.us.length db, .int .i64 B.fr]) := hW23_0.box
              have K_w23_24 : Below w23.heap.size w23 W23_0 := below_thru K_w23_23 hN
              clear K_w23_23
              have hB24 : Below w.heap.size w W23_0 := below_thru hB23 hN
              have hs24 := hB24.size
              have x_a24 : Box W23_0 (w2.heap.size) ([.slice p A.nx.length c, .slice q A.us.length d, .int .i64 A.fr]) := Box.below x_a23 hN
              have x_u24 : Box W23_0 (W2_0.heap.size) (A.us.map Value.bool) := Box.below x_u23 hN
              clear hB23 hs23 x_a23 x_u23
              clear hN hW23_0
              have Gb := Lib.hid (Ib.out.below K_w23_24); clear Ib
              clear K_w23_24
              go_upto_region 24 with fail
              have O1 := Lib.hid (Fb.out.off lta); have O2 := Lib.hid (Fb.out.off ltu); clear Fb
              have xl := x_b24.lt
              go_upto_region 9 with (first | (refine wpList_load_box9 rfl _ _ rfl x_b24 rfl Try.underlying25 rfl (size_ar _ _ _) ?_) | (refine wpList_store_box (cs := [.slice pb B.nx.length cb, .slice qb B.us.length db, .int .i64 B.fr]) rfl _ _ _ rfl x_a24 rfl rfl (size_ar _ _ _) rfl (one_ar _ _ _ _ _ _ _) ?_; intro W8 hW8; have x_u8 := hW8.past _ _ (by omega) x_u24; have ltu8 := x_u8.lt) | (refine wpList_store_cell (k := jj) (ws := B.us.map Value.bool) (v := .bool false) rfl _ _ _ rfl x_u8 rfl rfl rfl rfl size_bl NL.out NS.out ?_; intro W9 hW9))
              have HI9 := Lib.hid (IsA.stored hW9 (IsA.stored hW8 Gb.out O1.out) O2.out); have x_a9 := hW9.past _ _ (by omega) hW8.box; have x_u9 := hW9.box; have hB9 := hW9.below _ _ (by omega) (hW8.below _ _ (by omega) hB24); clear hW8 hW9
              go_wp2_with fail
              go_roundw
              case rel => exact ⟨k + 1, B, _, (jj : Int), pb, cb, qb, db, by omega, by go_num, rfl, HV2, HN2, Lib.hid (Or.inr ⟨jj, fl, rfl, rfl⟩), HI9, O1, O2, x_a9, x_u9, hB9⟩
              case measure => simp [intOf]; omega
            | false =>
              clear hbb
              have GI := Lib.hid (HI.out.below K_wr_22)
              clear K_wr_22
              have lta := x_a22.lt; have ltu := x_u22.lt
              cases fl with
              | nil =>
                have hcn : ((cn : Int) == (n : Int)) = true := by rw [beq_iff_eq]; have h1 := HC.out; have h2 := HN.out; rw [h2] at h1; simp at h1; omega
                have TK := fun (W : World) (u : Value) (h : IsA W u A) => ptake_is (Or.inr (Or.inl ⟨rfl, HV.out, rfl, rfl⟩)) W h
                have K_wc_22 : Below wc.heap.size wc wc := Below.refl _ _
                go_wp2_with (refine wpList_load_box9 rfl _ _ rfl x_a22 rfl Try.underlying25 rfl (size_ar _ _ _) ?_)
                refine (TK _ _ GI.out).mono ?_
                rintro e w23 ⟨vz, rfl, hI, hF, hb⟩
                obtain ⟨xz, yz, rfl, rx, ry⟩ := id hI; obtain ⟨pz, cz, rfl, hrx⟩ := id rx; obtain ⟨qz, dz, rfl, hry⟩ := id ry; clear hrx hry rx ry
                have Fz := Lib.hid hF; clear hF
                have K_wc_23 : Below wc.heap.size wc w23 := below_thru K_wc_22 hb
                clear K_wc_22
                have hB23 : Below w.heap.size w w23 := below_thru hB22 hb
                have hs23 := hB23.size
                have x_a23 : Box w23 (w2.heap.size) ([.slice p A.nx.length c, .slice q A.us.length d, .int .i64 A.fr]) := Box.below x_a22 hb
                have x_u23 : Box w23 (W2_0.heap.size) (A.us.map Value.bool) := Box.below x_u22 hb
                clear hB22 hs22 x_a22 x_u22
                clear hb
                have loz := hs23
                have K_w23_23 : Below w23.heap.size w23 w23 := Below.refl _ _
                have Iz : Hid (IsA w23 (.agg [.slice pz Ar.zero.nx.length cz, .slice qz Ar.zero.us.length dz, .int .i64 Ar.zero.fr].toArray) Ar.zero) := Lib.hid hI; clear hI
                have d_z_a := (x_a23).lt
                have d_z_u := (x_u23).lt
                have d_z_0 := hs23
                go_upto_region 26 with (refine wpList_store_box (cs := [.slice pz Ar.zero.nx.length cz, .slice qz Ar.zero.us.length dz, .int .i64 Ar.zero.fr]) rfl _ _ _ rfl (Box.newc (l := ar0) rfl rfl) rfl rfl (size_ar _ _ _) rfl (one_ar _ _ _ _ _ _ _) ?_; intro W23_0 hW23_0)
                have hN : Below w23.heap.size w23 W23_0 := (hW23_0.below _ _ (by omega) ((Below.refl _ w23).alloc (Nat.le_refl _) _))
                have x_z24 : Box W23_0 (w23.heap.size) ([.slice pz Ar.zero.nx.length cz, .slice qz Ar.zero.us.length dz, .int .i64 Ar.zero.fr]) := hW23_0.box
                have K_wc_24 : Below wc.heap.size wc W23_0 := below_thru K_wc_23 hN
                have K_w23_24 : Below w23.heap.size w23 W23_0 := below_thru K_w23_23 hN
                clear K_wc_23 K_w23_23
                have hB24 : Below w.heap.size w W23_0 := below_thru hB23 hN
                have hs24 := hB24.size
                have x_a24 : Box W23_0 (w2.heap.size) ([.slice p A.nx.length c, .slice q A.us.length d, .int .i64 A.fr]) := Box.below x_a23 hN
                have x_u24 : Box W23_0 (W2_0.heap.size) (A.us.map Value.bool) := Box.below x_u23 hN
                clear hB23 hs23 x_a23 x_u23
                clear hN hW23_0
                have Gz := Lib.hid (Iz.out.below K_w23_24); clear Iz
                clear K_w23_24
                have GIZ := Lib.hid (GI.out.below K_wc_24)
                clear K_wc_24
                go_wp2_with fail
                go_roundw
                case rel => exact ⟨k + 1, A, [], g, p, c, q, d, by omega, by go_num, rfl, HV, HN, HG, GIZ, HO, HP, x_a24, x_u24, hB24⟩
                case measure => simp [intOf]; omega
              | cons jj r =>
                have hh := HV.out.head; have hjj : jj < n := by have := hh.2.1; rw [HN.out] at this; exact this
                obtain ⟨x, hx, _⟩ := HV.out.snd
                have hu := HV.out.free (i := jj) List.mem_cons_self
                have HV2 := Lib.hid (HV.out.took hx); have HN2 := Lib.hid (show (A.took jj x).nx.length = n by simp [Ar.took]; exact HN.out)
                have hcn : ((cn : Int) == (n : Int)) = false := by rw [beq_eq_false_iff_ne]; have h1 := HC.out; have h2 := HN.out; rw [h2] at h1; simp at h1; omega
                have TK := fun (W : World) (u : Value) (h : IsA W u A) => ptake_is (Or.inr (Or.inr ⟨rfl, jj, r, x, HV.out, hx, rfl, rfl⟩)) W h
                have NS := Lib.hid (show (A.took jj x).us.map Value.bool = (A.us.map Value.bool).set jj (.bool true) by unfold Ar.took; exact set_bools _ _ _); have NL := Lib.hid (show jj < (A.us.map Value.bool).length by rw [List.length_map, HU.out]; exact hjj)
                have hg : (g = -1 ∨ g = jj) := by
                  rcases HG.out with h | ⟨j2, r2, h, e⟩
                  · exact Or.inl h
                  · cases e
                    exact Or.inr h
                have HF := Lib.hid (show (A.us.map Value.bool)[jj]? = some (.bool false) by rw [List.getElem?_map, hu]; rfl)
                obtain ⟨B, hBt⟩ : ∃ X, A.took jj x = X := ⟨_, rfl⟩; rw [hBt] at TK HV2 HN2 NS; clear hBt hh hx hu HV HN HG
                have j0 : (0 : Int) ≤ (jj : Int) := (by omega); have j1 : (jj : Int) < (n : Int) := (by omega)
                have e0 : decide ((jj : Int) < 0) = false := decide_eq_false (by omega); have e1 : decide ((n : Int) ≤ (jj : Int)) = false := decide_eq_false (by omega); have e2 := bne_self_eq_false (jj : Int)
                go_wp2_with (refine wpList_load_box9 rfl _ _ rfl x_a22 rfl Try.underlying25 rfl (size_ar _ _ _) ?_)
                refine (TK _ _ GI.out).mono ?_
                rintro e w23 ⟨vb, rfl, hI, hF, hb⟩
                obtain ⟨xb, yb, rfl, rx, ry⟩ := id hI; obtain ⟨pb, cb, rfl, hrx⟩ := id rx; obtain ⟨qb, db, rfl, hry⟩ := id ry; clear hrx hry rx ry
                have Fb := Lib.hid hF; clear hF
                have hB23 : Below w.heap.size w w23 := below_thru hB22 hb
                have hs23 := hB23.size
                have x_a23 : Box w23 (w2.heap.size) ([.slice p A.nx.length c, .slice q A.us.length d, .int .i64 A.fr]) := Box.below x_a22 hb
                have x_u23 : Box w23 (W2_0.heap.size) (A.us.map Value.bool) := Box.below x_u22 hb
                clear hB22 hs22 x_a22 x_u22
                clear hb
                have lob := hs23
                have K_w23_23 : Below w23.heap.size w23 w23 := Below.refl _ _
                have Ib : Hid (IsA w23 (.agg [.slice pb B.nx.length cb, .slice qb B.us.length db, .int .i64 B.fr].toArray) B) := Lib.hid hI; clear hI
                have d_b_a := (x_a23).lt
                have d_b_u := (x_u23).lt
                have d_b_0 := hs23
                go_upto_region 26 with (refine wpList_store_box (cs := [.slice pb B.nx.length cb, .slice qb B.us.length db, .int .i64 B.fr]) rfl _ _ _ rfl (Box.newc (l := ar0) rfl rfl) rfl rfl (size_ar _ _ _) rfl (one_ar _ _ _ _ _ _ _) ?_; intro W23_0 hW23_0)
                have hN : Below w23.heap.size w23 W23_0 := (hW23_0.below _ _ (by omega) ((Below.refl _ w23).alloc (Nat.le_refl _) _))
                have x_b24 : Box W23_0 (w23.heap.size) ([.slice pb B.nx.length cb, .slice qb B.us.length db, .int .i64 B.fr]) := hW23_0.box
                have K_w23_24 : Below w23.heap.size w23 W23_0 := below_thru K_w23_23 hN
                clear K_w23_23
                have hB24 : Below w.heap.size w W23_0 := below_thru hB23 hN
                have hs24 := hB24.size
                have x_a24 : Box W23_0 (w2.heap.size) ([.slice p A.nx.length c, .slice q A.us.length d, .int .i64 A.fr]) := Box.below x_a23 hN
                have x_u24 : Box W23_0 (W2_0.heap.size) (A.us.map Value.bool) := Box.below x_u23 hN
                clear hB23 hs23 x_a23 x_u23
                clear hN hW23_0
                have Gb := Lib.hid (Ib.out.below K_w23_24); clear Ib
                clear K_w23_24
                have f2 := x_u24.c jj _ HF.out; have z2 := lt_of_cell f2
                rcases hg with rfl | rfl
                · skip
                  go_upto_region 31 with fail
                  clear f2 z2
                  have O1 := Lib.hid (Fb.out.off lta); have O2 := Lib.hid (Fb.out.off ltu); clear Fb
                  have xl := x_b24.lt
                  go_upto_region 9 with (first | (refine wpList_load_box9 rfl _ _ rfl x_b24 rfl Try.underlying25 rfl (size_ar _ _ _) ?_) | (refine wpList_store_box (cs := [.slice pb B.nx.length cb, .slice qb B.us.length db, .int .i64 B.fr]) rfl _ _ _ rfl x_a24 rfl rfl (size_ar _ _ _) rfl (one_ar _ _ _ _ _ _ _) ?_; intro W8 hW8; have x_u8 := hW8.past _ _ (by omega) x_u24; have ltu8 := x_u8.lt) | (refine wpList_store_cell (k := jj) (ws := B.us.map Value.bool) (v := .bool true) rfl _ _ _ rfl x_u8 rfl rfl rfl rfl size_bl NL.out NS.out ?_; intro W9 hW9))
                  have HI9 := Lib.hid (IsA.stored hW9 (IsA.stored hW8 Gb.out O1.out) O2.out); have x_a9 := hW9.past _ _ (by omega) hW8.box; have x_u9 := hW9.box; have hB9 := hW9.below _ _ (by omega) (hW8.below _ _ (by omega) hB24); clear hW8 hW9
                  go_wp2_with fail
                  go_roundw
                  case rel => exact ⟨k + 1, B, _, -1, pb, cb, qb, db, by omega, by go_num, rfl, HV2, HN2, Lib.hid (Or.inl rfl), HI9, O1, O2, x_a9, x_u9, hB9⟩
                  case measure => simp [intOf]; omega
                · skip
                  go_upto_region 31 with fail
                  clear f2 z2
                  have O1 := Lib.hid (Fb.out.off lta); have O2 := Lib.hid (Fb.out.off ltu); clear Fb
                  have xl := x_b24.lt
                  go_upto_region 9 with (first | (refine wpList_load_box9 rfl _ _ rfl x_b24 rfl Try.underlying25 rfl (size_ar _ _ _) ?_) | (refine wpList_store_box (cs := [.slice pb B.nx.length cb, .slice qb B.us.length db, .int .i64 B.fr]) rfl _ _ _ rfl x_a24 rfl rfl (size_ar _ _ _) rfl (one_ar _ _ _ _ _ _ _) ?_; intro W8 hW8; have x_u8 := hW8.past _ _ (by omega) x_u24; have ltu8 := x_u8.lt) | (refine wpList_store_cell (k := jj) (ws := B.us.map Value.bool) (v := .bool true) rfl _ _ _ rfl x_u8 rfl rfl rfl rfl size_bl NL.out NS.out ?_; intro W9 hW9))
                  have HI9 := Lib.hid (IsA.stored hW9 (IsA.stored hW8 Gb.out O1.out) O2.out); have x_a9 := hW9.past _ _ (by omega) hW8.box; have x_u9 := hW9.box; have hB9 := hW9.below _ _ (by omega) (hW8.below _ _ (by omega) hB24); clear hW8 hW9
                  go_wp2_with fail
                  go_roundw
                  case rel => exact ⟨k + 1, B, _, -1, pb, cb, qb, db, by omega, by go_num, rfl, HV2, HN2, Lib.hid (Or.inl rfl), HI9, O1, O2, x_a9, x_u9, hB9⟩
                  case measure => simp [intOf]; omega

theorem whole13_is {p : Int} {v : Value} {ls : List Int} (w : World) (h1 : IsR LI w v ls) : Calls Try.prog 5 #[.int .i64 p, v] w fun e w' => e = .returned (.bool true) ∧ Below w.heap.size w w' := by
  by_cases h : p < 1
  · exact whole13_a h w h1
  · by_cases h2 : 16 < p
    · exact whole13_b h2 w h1
    · obtain ⟨n, rfl⟩ : ∃ n : Nat, p = n := ⟨p.toNat, by omega⟩
      by_cases hl : 60 < ls.length
      · exact whole13_c (m := n - 1) (by omega) (by omega) hl w h1
      · exact whole13_d (m := n - 1) (by omega) (by omega) (by omega) w h1

end Go.Proofs.Ytepimljjbmoojaa
