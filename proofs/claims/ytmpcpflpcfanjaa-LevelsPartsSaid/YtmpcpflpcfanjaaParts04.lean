/-
  LevelsParts, walked over the contracts of package levels: it returns true.
-/
import Derived.Test.YtmpcpflpcfanjaaSame04
namespace Go.Proofs.Ytmpcpflpcfanjaa
open Go.RowKit


set_option maxRecDepth 100000 in
set_option maxHeartbeats 6400000 in
theorem parts4_bad {bs : List Bk} {ts cs : List Int} {at1 at2 : Option Addr} {n m c1 c2 : Nat} {p : Int} {v : Value} {w : World} (h : rowE bs ≠ 0) (hn : Hid (ts.length = n)) (hm : Hid (cs.length = m)) (h1 : IsB w v bs) (hi : Ints w .u64 at1 c1 ts) (hj : Ints w .i64 at2 c2 cs) :
    Calls Try.prog 9 #[v, .slice at1 n c1, .slice at2 m c2, .int .i64 p] w fun e w' => e = .returned (.bool true) ∧ Below w.heap.size w w' := by
  have i1 : n ≤ c1 := by have := hi.room; have := hn.out; omega
  have i2 := hi.most
  have j1 : m ≤ c2 := by have := hj.room; have := hm.out; omega
  have j2 := hj.most
  go_enter Try.func9, Try.ntmps9
  go_wp2_with fail
  refine (fit_no h h1).mono ?_
  rintro e w1 ⟨rfl, hb⟩
  have hB1 : Below w.heap.size w w1 := below_thru (by go_grown) hb
  have hs1 := hB1.size
  clear hb
  go_wp2_with fail
  refine (alive04_any _).mono ?_
  rintro e w2 ⟨rfl, hb⟩
  have hB2 : Below w.heap.size w w2 := below_thru (by go_grown) hb
  have hs2 := hB2.size
  clear hb
  clear hB1 hs1
  go_wp2_with fail
  go_returns
  exact ⟨rfl, hB2⟩

set_option maxRecDepth 100000 in
set_option maxHeartbeats 6400000 in
theorem parts4_long {bs : List Bk} {ts cs : List Int} {at1 at2 : Option Addr} {n m c1 c2 : Nat} {p : Int} {v : Value} {w : World} (h : rowE bs = 0) (hl : 30 < n) (hn : Hid (ts.length = n)) (hm : Hid (cs.length = m)) (h1 : IsB w v bs) (hi : Ints w .u64 at1 c1 ts) (hj : Ints w .i64 at2 c2 cs) :
    Calls Try.prog 9 #[v, .slice at1 n c1, .slice at2 m c2, .int .i64 p] w fun e w' => e = .returned (.bool true) ∧ Below w.heap.size w w' := by
  have i1 : n ≤ c1 := by have := hi.room; have := hn.out; omega
  have i2 := hi.most
  have j1 : m ≤ c2 := by have := hj.room; have := hm.out; omega
  have j2 := hj.most
  have d1 : decide ((30 : Int) < (n : Int)) = true := decide_eq_true (by omega)
  go_enter Try.func9, Try.ntmps9
  go_wp2_with fail
  refine (fit_yes h h1).mono ?_
  rintro e w1 ⟨rfl, hb⟩
  have hB1 : Below w.heap.size w w1 := below_thru (by go_grown) hb
  have hs1 := hB1.size
  clear hb
  go_wp2_with fail
  refine (alive04_any _).mono ?_
  rintro e w2 ⟨rfl, hb⟩
  have hB2 : Below w.heap.size w w2 := below_thru (by go_grown) hb
  have hs2 := hB2.size
  clear hb
  clear hB1 hs1
  go_wp2_with fail
  go_returns
  exact ⟨rfl, hB2⟩

set_option maxRecDepth 100000 in
set_option maxHeartbeats 6400000 in
theorem parts4_costs {bs : List Bk} {ts cs : List Int} {at1 at2 : Option Addr} {n m c1 c2 : Nat} {p : Int} {v : Value} {w : World} (h : rowE bs = 0) (hl : n ≤ 30) (hx : Hid (cosB ts cs = false)) (hn : Hid (ts.length = n)) (hm : Hid (cs.length = m)) (h1 : IsB w v bs) (hi : Ints w .u64 at1 c1 ts) (hj : Ints w .i64 at2 c2 cs) :
    Calls Try.prog 9 #[v, .slice at1 n c1, .slice at2 m c2, .int .i64 p] w fun e w' => e = .returned (.bool true) ∧ Below w.heap.size w w' := by
  have i1 : n ≤ c1 := by have := hi.room; have := hn.out; omega
  have i2 := hi.most
  have j1 : m ≤ c2 := by have := hj.room; have := hm.out; omega
  have j2 := hj.most
  have d1 : decide ((30 : Int) < (n : Int)) = false := decide_eq_false (by omega)
  have J0 := Lib.hid hj
  go_enter Try.func9, Try.ntmps9
  go_wp2_with fail
  refine (fit_yes h h1).mono ?_
  rintro e w1 ⟨rfl, hb⟩
  have hB1 : Below w.heap.size w w1 := below_thru (by go_grown) hb
  have hs1 := hB1.size
  clear hb
  have J1 := Lib.hid (J0.out.below hB1)
  go_wp2_with fail
  refine (rcosts_is _ hn hm hx J1.out).mono ?_
  rintro e _ ⟨rfl, rfl⟩
  go_wp2_with fail
  refine (alive04_any _).mono ?_
  rintro e w2 ⟨rfl, hb⟩
  have hB2 : Below w.heap.size w w2 := below_thru (by go_grown) hb
  have hs2 := hB2.size
  clear hb
  clear hB1 hs1
  go_wp2_with fail
  go_returns
  exact ⟨rfl, hB2⟩

set_option maxRecDepth 100000 in
set_option maxHeartbeats 6400000 in
theorem parts4_neg {bs : List Bk} {ts cs : List Int} {at1 at2 : Option Addr} {n m c1 c2 : Nat} {p : Int} {v : Value} {w : World} (h : rowE bs = 0) (hl : n ≤ 30) (hx : Hid (cosB ts cs = true)) (hp : p < 0) (hn : Hid (ts.length = n)) (hm : Hid (cs.length = m)) (h1 : IsB w v bs) (hi : Ints w .u64 at1 c1 ts) (hj : Ints w .i64 at2 c2 cs) :
    Calls Try.prog 9 #[v, .slice at1 n c1, .slice at2 m c2, .int .i64 p] w fun e w' => e = .returned (.bool true) ∧ Below w.heap.size w w' := by
  have i1 : n ≤ c1 := by have := hi.room; have := hn.out; omega
  have i2 := hi.most
  have j1 : m ≤ c2 := by have := hj.room; have := hm.out; omega
  have j2 := hj.most
  have d1 : decide ((30 : Int) < (n : Int)) = false := decide_eq_false (by omega)
  have J0 := Lib.hid hj
  have d2 : decide (p < 0) = true := decide_eq_true hp
  go_enter Try.func9, Try.ntmps9
  go_wp2_with fail
  refine (fit_yes h h1).mono ?_
  rintro e w1 ⟨rfl, hb⟩
  have hB1 : Below w.heap.size w w1 := below_thru (by go_grown) hb
  have hs1 := hB1.size
  clear hb
  have J1 := Lib.hid (J0.out.below hB1)
  go_wp2_with fail
  refine (rcosts_is _ hn hm hx J1.out).mono ?_
  rintro e _ ⟨rfl, rfl⟩
  go_wp2_with fail
  refine (alive04_any _).mono ?_
  rintro e w2 ⟨rfl, hb⟩
  have hB2 : Below w.heap.size w w2 := below_thru (by go_grown) hb
  have hs2 := hB2.size
  clear hb
  clear hB1 hs1
  go_wp2_with fail
  go_returns
  exact ⟨rfl, hB2⟩

set_option maxRecDepth 100000 in
set_option maxHeartbeats 6400000 in
theorem parts4_far {bs : List Bk} {ts cs : List Int} {at1 at2 : Option Addr} {n m c1 c2 : Nat} {p : Int} {v : Value} {w : World} (h : rowE bs = 0) (hl : n ≤ 30) (hx : Hid (cosB ts cs = true)) (hp : 0 ≤ p) (hf : (n : Int) < p) (hn : Hid (ts.length = n)) (hm : Hid (cs.length = m)) (h1 : IsB w v bs) (hi : Ints w .u64 at1 c1 ts) (hj : Ints w .i64 at2 c2 cs) :
    Calls Try.prog 9 #[v, .slice at1 n c1, .slice at2 m c2, .int .i64 p] w fun e w' => e = .returned (.bool true) ∧ Below w.heap.size w w' := by
  have i1 : n ≤ c1 := by have := hi.room; have := hn.out; omega
  have i2 := hi.most
  have j1 : m ≤ c2 := by have := hj.room; have := hm.out; omega
  have j2 := hj.most
  have d1 : decide ((30 : Int) < (n : Int)) = false := decide_eq_false (by omega)
  have J0 := Lib.hid hj
  have d2 : decide (p < 0) = false := decide_eq_false (by omega)
  have d3 : decide ((n : Int) < p) = true := decide_eq_true hf
  go_enter Try.func9, Try.ntmps9
  go_wp2_with fail
  refine (fit_yes h h1).mono ?_
  rintro e w1 ⟨rfl, hb⟩
  have hB1 : Below w.heap.size w w1 := below_thru (by go_grown) hb
  have hs1 := hB1.size
  clear hb
  have J1 := Lib.hid (J0.out.below hB1)
  go_wp2_with fail
  refine (rcosts_is _ hn hm hx J1.out).mono ?_
  rintro e _ ⟨rfl, rfl⟩
  go_wp2_with fail
  refine (alive04_any _).mono ?_
  rintro e w2 ⟨rfl, hb⟩
  have hB2 : Below w.heap.size w w2 := below_thru (by go_grown) hb
  have hs2 := hB2.size
  clear hb
  clear hB1 hs1
  go_wp2_with fail
  go_returns
  exact ⟨rfl, hB2⟩

set_option maxRecDepth 100000 in
set_option maxHeartbeats 12800000 in
theorem parts4_main {bs : List Bk} {ts cs : List Int} {at1 at2 : Option Addr} {n m c1 c2 : Nat} {v : Value} {w : World} (hr : Row bs) (ht : ∀ k, k < ts.length → isU (nth ts k)) (hl : n ≤ 30) (hx : Hid (cosB ts cs = true)) (j : Nat) (hj0 : j ≤ n) (hn : Hid (ts.length = n)) (hm : Hid (cs.length = m)) (h1 : IsB w v bs) (hi : Ints w .u64 at1 c1 ts) (hj : Ints w .i64 at2 c2 cs) :
    Calls Try.prog 9 #[v, .slice at1 n c1, .slice at2 m c2, .int .i64 (j : Int)] w fun e w' => e = .returned (.bool true) ∧ Below w.heap.size w w' := by
  have i1 : n ≤ c1 := by have := hi.room; have := hn.out; omega
  have i2 := hi.most
  have j1 : m ≤ c2 := by have := hj.room; have := hm.out; omega
  have j2 := hj.most
  have h := hr.e
  have HR := Lib.hid hr
  have hl30 : n ≤ 30 := hl
  have he : Entries ts cs := ⟨by have := hn.out; omega, (cosB_yes hx.out).1, ht, (cosB_yes hx.out).2⟩
  have hmn : m = n := by have := he.same; have := hn.out; have := hm.out; omega
  subst hmn
  have HT := Lib.hid he
  obtain ⟨zs, ez⟩ : ∃ y, runR bs ts cs m = y := ⟨_, rfl⟩
  obtain ⟨aa, ea⟩ : ∃ y, runA bs ts cs m = y := ⟨_, rfl⟩
  obtain ⟨z1, ez1⟩ : ∃ y, runR bs ts cs j = y := ⟨_, rfl⟩
  obtain ⟨aa1, ea1⟩ : ∃ y, runA bs ts cs j = y := ⟨_, rfl⟩
  obtain ⟨r, hrj⟩ : ∃ r, m - j = r := ⟨_, rfl⟩
  have hrj2 : j + r = m := by omega
  obtain ⟨aa2, ea2⟩ : ∃ y, runA z1 (ts.drop j) (cs.drop j) r = y := ⟨_, rfl⟩
  have ez2 : runR z1 (ts.drop j) (cs.drop j) r = zs := by rw [← ez1, (runR_drop bs ts cs j r).1, hrj2, ez]
  have hsum : aa1 ++ aa2 = aa := by rw [← ea1, ← ea2, ← ez1, (runR_drop bs ts cs j r).2, hrj2, ea]
  have hr1 : Row z1 := by rw [← ez1]; exact runR_row hr he j (by have := hn.out; omega)
  have HT1 := Lib.hid (he.take j (by have := hn.out; omega))
  have HT2 := Lib.hid (he.drop j (by have := hn.out; omega))
  have HN1 := Lib.hid (show (ts.take j).length = j by rw [List.length_take]; have := hn.out; omega)
  have HN2 := Lib.hid (show (ts.drop j).length = m - j by rw [List.length_drop]; have := hn.out; omega)
  have EZ1 := Lib.hid (show runR bs (ts.take j) (cs.take j) j = z1 by rw [(runR_take bs ts cs j j (Nat.le_refl _)).1, ez1])
  have EA1 := Lib.hid (show runA bs (ts.take j) (cs.take j) j = aa1 by rw [(runR_take bs ts cs j j (Nat.le_refl _)).2, ea1])
  have EZ := Lib.hid ez
  have EA := Lib.hid ea
  have EZ2 := Lib.hid (show runR z1 (ts.drop j) (cs.drop j) (m - j) = zs by rw [hrj]; exact ez2)
  have EA2 := Lib.hid (show runA z1 (ts.drop j) (cs.drop j) (m - j) = aa2 by rw [hrj]; exact ea2)
  have HS := Lib.hid hsum
  have HR1 := Lib.hid hr1
  have HLA := Lib.hid (show aa.length = m by rw [← ea]; exact runA_len bs ts cs m)
  have HLC := Lib.hid (show aa1.length + aa2.length = m by have := congrArg List.length hsum; rw [List.length_append] at this; rw [this, ← ea]; exact runA_len bs ts cs m)
  have H1 := Lib.hid h1
  have I1 := Lib.hid hi
  have J1 := Lib.hid hj
  have d1 : decide ((30 : Int) < (m : Int)) = false := decide_eq_false (by omega)
  have d2 : decide ((j : Int) < 0) = false := decide_eq_false (by omega)
  have d3 : decide ((m : Int) < (j : Int)) = false := decide_eq_false (by omega)
  have d3' : decide (m < j) = false := decide_eq_false (by omega)
  have g1 : (0 : Int) ≤ (j : Int) := by omega
  have g2 : (j : Int) ≤ (m : Int) := by omega
  have g3 : (j : Int) ≤ (c1 : Int) := by omega
  have g4 : (j : Int) ≤ (c2 : Int) := by omega
  clear hr he ez ea ez1 ea1 ea2 ez2 hsum hr1 h1 hi hj hrj hrj2
  obtain ⟨tb, hbn, hy0, hy1, hy2⟩ := info_parts info_bool
  go_enter Try.func9, Try.ntmps9
  go_wp2_with fail
  refine (fit_yes h H1.out).mono ?_
  rintro e w1 ⟨rfl, hb⟩
  have hB1 : Below w.heap.size w w1 := below_thru (by go_grown) hb
  have hs1 := hB1.size
  have H1_ : Hid (IsB w1 v bs) := Lib.hid (by first | exact H1.out.below hb | exact (H1.out.alloc _).below hb | exact ((H1.out.alloc _).alloc _).below hb | exact (((H1.out.alloc _).alloc _).alloc _).below hb | exact H1.out.drew.below hb)
  clear H1; have H1 := H1_; clear H1_
  have I1_ : Hid (Ints w1 .u64 at1 c1 ts) := Lib.hid (by first | exact I1.out.below hb | exact (I1.out.alloc _).below hb | exact ((I1.out.alloc _).alloc _).below hb | exact (((I1.out.alloc _).alloc _).alloc _).below hb | exact I1.out.drew.below hb)
  clear I1; have I1 := I1_; clear I1_
  have J1_ : Hid (Ints w1 .i64 at2 c2 cs) := Lib.hid (by first | exact J1.out.below hb | exact (J1.out.alloc _).below hb | exact ((J1.out.alloc _).alloc _).below hb | exact (((J1.out.alloc _).alloc _).alloc _).below hb | exact J1.out.drew.below hb)
  clear J1; have J1 := J1_; clear J1_
  clear hb
  go_wp2_with fail
  refine (rcosts_is _ hn hm hx J1.out).mono ?_
  rintro e _ ⟨rfl, rfl⟩
  go_wp2_with fail
  refine (lrun_is HR.out HT.out hn EZ EA H1.out I1.out J1.out).mono ?_
  rintro e w2 ⟨v2, u2, rfl, ho, hu, hb⟩
  have hB2 : Below w.heap.size w w2 := below_thru hB1 hb
  have hs2 := hB2.size
  have O2 : Hid (OwnB w.heap.size w2 v2 zs) := Lib.hid (ho.base hs1)
  have A2 : Hid (IsV w2 u2 (bools aa)) := Lib.hid (IsV.own hu (bools_len _).symm)
  have H2 := Lib.hid (H1.out.below hb)
  have I2 := Lib.hid (I1.out.below hb)
  have J2 := Lib.hid (J1.out.below hb)
  clear hb ho hu H1 I1 J1 hB1 hs1
  have H2d : Hid (IsB w2.drew v bs) := Lib.hid H2.out.drew
  have I2d : Hid (Ints w2.drew .u64 at1 c1 (ts.take j)) := Lib.hid (I2.out.drew.take j (by have := hn.out; omega))
  have J2d : Hid (Ints w2.drew .i64 at2 c2 (cs.take j)) := Lib.hid (J2.out.drew.take j (by have := hm.out; omega))
  go_wp2_with fail
  go_region_held3 (fun _ => True) (trivial) ((go_at_call 23; refine (lrun_is HR.out HT1.out HN1 EZ1 EA1 H2d.out I2d.out J2d.out).mono ?_; rintro e w3 ⟨v3, u3, rfl, ho, hu, hb⟩))
  have hB3 : Below w.heap.size w w3 := below_thru (below_drewN hB2 1) hb
  have hs3 := hB3.size
  have O3 : Hid (OwnB w.heap.size w3 v3 z1) := Lib.hid (ho.base hs2)
  have A3 : Hid (IsV w3 u3 (bools aa1)) := Lib.hid (IsV.own hu (bools_len _).symm)
  have H3 := Lib.hid (H2d.out.below hb)
  have I3 := Lib.hid (I2.out.drew.below hb)
  have J3 := Lib.hid (J2.out.drew.below hb)
  have A2' := Lib.hid (A2.out.drew.below hb)
  have O2' : Hid (OwnB w.heap.size w3 v2 zs) := Lib.hid (own_below (w := w2.drew) O2.out hb)
  clear hb ho hu H2 H2d I2 I2d J2 J2d A2 O2 hB2 hs2
  have G3 : Hid (IsB w3.drew v3 z1) := Lib.hid O3.out.is.drew
  obtain ⟨B1, hq1⟩ : ∃ y, (if c1 = j then at1 else Option.map (fun x => x.add j) at1) = y := ⟨_, rfl⟩
  obtain ⟨B2, hq2⟩ : ∃ y, (if c2 = j then at2 else Option.map (fun x => x.add j) at2) = y := ⟨_, rfl⟩
  have I3d : Hid (Ints w3.drew .u64 B1 (c1 - j) (ts.drop j)) := Lib.hid (by rw [← hq1]; exact I3.out.drew.cut j (by have := hn.out; omega))
  have J3d : Hid (Ints w3.drew .i64 B2 (c2 - j) (cs.drop j)) := Lib.hid (by rw [← hq2]; exact J3.out.drew.cut j (by have := hm.out; omega))
  go_wp2_with fail
  go_region_held3 (fun _ => True) (trivial) ((go_at_call 23; refine (lrun_is HR1.out HT2.out HN2 EZ2 EA2 G3.out I3d.out J3d.out).mono ?_; rintro e w4 ⟨v4, u4, rfl, ho, hu, hb⟩))
  have hB4 : Below w.heap.size w w4 := below_thru (below_drewN hB3 1) hb
  have hs4 := hB4.size
  have O4 : Hid (OwnB w.heap.size w4 v4 zs) := Lib.hid (ho.base hs3)
  have A4 : Hid (IsV w4 u4 (bools aa2)) := Lib.hid (IsV.own hu (bools_len _).symm)
  have H4 := Lib.hid (H3.out.drew.below hb)
  have I4 := Lib.hid (I3.out.drew.below hb)
  have J4 := Lib.hid (J3.out.drew.below hb)
  have A2 := Lib.hid (A2'.out.drew.below hb)
  have A3' := Lib.hid (A3.out.drew.below hb)
  have O2 : Hid (OwnB w.heap.size w4 v2 zs) := Lib.hid (own_below (w := w3.drew) O2'.out hb)
  clear hb ho hu H3 I3 I3d J3 J3d A2' A3 O2' O3 G3 hB3 hs3 hq1 hq2
  go_wp2_with fail
  refine (sameb_tt O2.out.is O4.out.is).mono ?_
  rintro e w5 ⟨rfl, hb⟩
  have hB5 : Below w.heap.size w w5 := below_thru hB4 hb
  have hs5 := hB5.size
  have H5 := Lib.hid (H4.out.below hb)
  have I5 := Lib.hid (I4.out.below hb)
  have J5 := Lib.hid (J4.out.below hb)
  have A25 := Lib.hid (A2.out.below hb)
  have A35 := Lib.hid (A3'.out.below hb)
  have A45 := Lib.hid (A4.out.below hb)
  have O25 : Hid (OwnB w.heap.size w5 v2 zs) := Lib.hid (own_below O2.out hb)
  have hlb1 : (bools aa1).length + (bools aa2).length ≤ 30 := by rw [bools_len, bools_len]; have := HLC.out; omega
  clear hb H4 I4 J4 A2 A3' A4 O2 O4 hB4 hs4
  go_wp2_with (first | (at_builtin; refine wpList_append_vals (by rfl) _ _ 48 (by rfl) w5.heap.size 4 tb _ 1 Try.underlying48 hbn hy0 hy1 hy2 rfl _ 0 [] (by rfl) (own_emptyV (Nat.le_refl _)) u3 (bools aa1) (by rfl) (A35.out.alloc _) (fun u hu => bools_one hu) (by unfold maxLen; omega) (by omega) (by simp) ?_; intro v8 w8 hown8 hgrow8) | (at_builtin; refine wpList_append_vals (by rfl) _ _ 48 (by rfl) w5.heap.size 4 tb _ 1 Try.underlying48 hbn hy0 hy1 hy2 rfl v8 _ _ (by rfl) hown8 u4 (bools aa2) (by rfl) (by refine IsV.below ?_ (((Below.refl w5.heap.size w5).alloc (Nat.le_refl _) (.cells #[] 4)).grown hgrow8 (by simp) (own_blocks (own_emptyV (e := 4) (Nat.le_refl _)))); exact A45.out) (fun u hu => bools_one hu) (by unfold maxLen; omega) (by omega) (by have := hgrow8.size; simp at this; omega) ?_; intro v9 w9 hown9 hgrow9))
  have hB58 := ((Below.refl w5.heap.size w5).alloc (Nat.le_refl _) (.cells #[] 4)).grown hgrow8 (by simp) (own_blocks (own_emptyV (e := 4) (Nat.le_refl _)))
  have hB59 := hB58.grown hgrow9 hB58.size (own_blocks hown8)
  have A9 : Hid (IsV w9 v9 (bools aa)) := Lib.hid (by
    have := hown9
    rw [List.nil_append] at this
    have e : bools aa = bools aa1 ++ bools aa2 := by rw [← HS.out]; unfold bools; simp
    rw [e]
    exact IsV.own this (by simp))
  have H9 := Lib.hid (H5.out.below hB59)
  have I9 := Lib.hid (I5.out.below hB59)
  have J9 := Lib.hid (J5.out.below hB59)
  have A29 := Lib.hid (A25.out.below hB59)
  have O29 : Hid (OwnB w.heap.size w9 v2 zs) := Lib.hid (own_below O25.out hB59)
  have hB9 : Below w.heap.size w w9 := below_thru hB5 hB59
  have hs9 := hB9.size
  clear hown8 hgrow8 hown9 hgrow9 hB58 hB59 H5 I5 J5 A25 A35 A45 O25 hB5 hs5 hlb1
  refine (samev_tt A29.out A9.out).mono ?_
  rintro e w10 ⟨rfl, hb⟩
  have hB10 : Below w.heap.size w w10 := below_thru hB9 hb
  have hs10 := hB10.size
  have H10 := Lib.hid (H9.out.below hb)
  have I10 := Lib.hid (I9.out.below hb)
  have J10 := Lib.hid (J9.out.below hb)
  obtain ⟨a2, k2, rfl, q2, m2, B5⟩ := (A29.out.below hb).openB HLA.out
  have O210 : Hid (OwnB w.heap.size w10 v2 zs) := Lib.hid (own_below O29.out hb)
  clear hb H9 I9 J9 A29 A9 O29 hB9 hs9
  go_wp2_with fail
  go_loopw [18, 19] (fun s18 s19 wr => ∃ k : Nat, s19 = .int .i64 k ∧ k ≤ m ∧ Hid (IsB wr s18 (runR bs ts cs k)) ∧ Below w10.heap.size w10 wr) (fun _ s19 _ => m - (intOf s19).toNat)
  case atStart => exact ⟨0, rfl, by omega, H10, Below.refl _ _⟩
  case round =>
    obtain ⟨k, rfl, hk, HROW, hB⟩ := hrel
    have hs := hB.size
    by_cases hlt : k < m
    case neg =>
      obtain rfl : k = m := by omega
      obtain ⟨wo, rfl⟩ : ∃ u : World, u = wr := ⟨_, rfl⟩
      have hBo := hB10.trans (hB.mono hs10)
      have R1 : Hid (IsB wo u18 zs) := Lib.hid (by rw [← EZ.out]; exact HROW.out)
      have R2 : Hid (IsB wo v2 zs) := Lib.hid (O210.out.is.below hB)
      clear hB hs HROW
      go_wp2_with fail
      refine (sameb_tt R1.out R2.out).mono ?_
      rintro e w11 ⟨rfl, hb⟩
      have hB11 : Below w.heap.size w w11 := below_thru hBo hb
      clear hb hBo
      go_wp2_with fail
      refine (alive04_any _).mono ?_
      rintro e w12 ⟨rfl, hb⟩
      have hB12 : Below w.heap.size w w12 := below_thru hB11 hb
      clear hb hB11
      go_wp2_with fail
      go_returns
      exact ⟨rfl, hB12⟩
    case pos =>
      obtain ⟨b1, o1, rfl, T0⟩ := I10.out.at (show k < ts.length by have := hn.out; omega)
      obtain ⟨b2, o2, rfl, C0⟩ := J10.out.at (show k < cs.length by have := hm.out; omega)
      obtain ⟨b3, o3, rfl, D0⟩ := B5.out.atB (show k < aa.length by have := HLA.out; omega)
      have hti : isU (nth ts k) := HT.out.tick k (by have := hn.out; omega)
      have hci : 0 ≤ nth cs k := HT.out.cost k (by have := hm.out; omega)
      have hbat : bat aa k = takB (runR bs ts cs k) (nth ts k) (nth cs k) := by rw [← EA.out]; exact bat_runA hlt
      obtain ⟨tk, etk⟩ : ∃ x, nth ts k = x := ⟨_, rfl⟩
      obtain ⟨co, eco⟩ : ∃ x, nth cs k = x := ⟨_, rfl⟩
      rw [etk] at T0 hti hbat
      rw [eco] at C0 hci hbat
      obtain ⟨rs, ers⟩ : ∃ x, runR bs ts cs k = x := ⟨_, rfl⟩
      rw [ers] at hbat
      obtain ⟨z2, ez2⟩ : ∃ x, takV rs tk co = x := ⟨_, rfl⟩
      obtain ⟨x2, ex2⟩ : ∃ x, takB rs tk co = x := ⟨_, rfl⟩
      rw [hbat, ex2] at D0
      have hrow : Row rs := by rw [← ers]; exact runR_row HR.out HT.out k (by have := hn.out; omega)
      have er1 : runR bs ts cs (k + 1) = z2 := by rw [← ez2, ← ers, ← etk, ← eco]; rfl
      have zt := lt_of_cell T0
      have zc := lt_of_cell C0
      have zd := lt_of_cell D0
      have ct := cell_below hB T0
      have cc := cell_below hB C0
      have hkm : (k : Int) < (m : Int) := by omega
      have hk0 : (0 : Int) ≤ (k : Int) := by omega
      have HRS : Hid (IsB wr.drew u18 rs) := Lib.hid (by have := HROW.out.drew; rwa [ers] at this)
      have HRW := Lib.hid hrow
      have EZ3 := Lib.hid ez2
      have EX3 := Lib.hid ex2
      have ER := Lib.hid er1
      clear etk eco ers hrow ez2 ex2 er1 hbat HROW
      obtain ⟨wo, rfl⟩ : ∃ u : World, u = wr := ⟨_, rfl⟩
      go_wp2_with fail
      go_region_held3 (fun w' => w'.cell? ⟨b1, o1 + k, none⟩ = some (.int .u64 tk) ∧ w'.cell? ⟨b2, o2 + k, none⟩ = some (.int .i64 co)) (((repeat' apply And.intro) <;> (first | (go_keep; done) | go_cell)))
        ((go_at_call 20; refine (ltake_ok HRW.out hti hci EZ3 EX3 HRS.out).mono ?_; rintro e v1 ⟨vz, rfl, ho, hv1⟩; have hV1 : Below w10.heap.size w10 v1 := below_thru (below_drewN hB 1) hv1; have hov : Hid (IsB v1 vz z2) := Lib.hid ho.is; have dd := cell_below hV1 D0; have c_t := cell_below hV1 T0; have c_c := cell_below hV1 C0; clear ho))
      all_goals
        cases x2
        all_goals
          go_wp2_with fail
          go_roundw
          case rel => exact ⟨k + 1, by go_num, by omega, by rw [ER.out]; exact hov, hV1⟩
          case measure => simp [intOf]; omega

theorem parts4_any {bs : List Bk} {ts cs : List Int} {at1 at2 : Option Addr} {c1 c2 : Nat} {p : Int} {v : Value} {w : World} (h1 : IsB w v bs) (hu : ∀ b ∈ bs, isU b.a) (hi : Ints w .u64 at1 c1 ts) (ht : ∀ k, k < ts.length → isU (nth ts k)) (hj : Ints w .i64 at2 c2 cs) :
    Calls Try.prog 9 #[v, .slice at1 ts.length c1, .slice at2 cs.length c2, .int .i64 p] w fun e w' => e = .returned (.bool true) ∧ Below w.heap.size w w' := by
  have hn : Hid (ts.length = ts.length) := Lib.hid rfl
  have hm : Hid (cs.length = cs.length) := Lib.hid rfl
  by_cases h : rowE bs = 0
  · rcases Nat.lt_or_ge 30 ts.length with q | q
    · exact parts4_long h q hn hm h1 hi hj
    · cases hx : cosB ts cs with
      | false => exact parts4_costs h q (Lib.hid hx) hn hm h1 hi hj
      | true =>
        rcases Int.lt_or_le p 0 with z | z
        · exact parts4_neg h q (Lib.hid hx) z hn hm h1 hi hj
        · rcases Int.lt_or_le (ts.length : Int) p with y | y
          · exact parts4_far h q (Lib.hid hx) z y hn hm h1 hi hj
          · obtain ⟨j, rfl⟩ := Int.eq_ofNat_of_zero_le z
            exact parts4_main (Row.of h hu) ht q (Lib.hid hx) j (by omega) hn hm h1 hi hj
  · exact parts4_bad h hn hm h1 hi hj

end Go.Proofs.Ytmpcpflpcfanjaa
