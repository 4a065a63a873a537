/-
  levels.Run, walked: a run's row and what it admits.
-/
import Derived.Test.YtegbcagcfmijcaaLev04D
import Derived.Test.YtegbcagcfmijcaaApp04
import Derived.Test.YtegbcagcfmijcaaLawL03
import Derived.Deep.QuietTactic
import Derived.BigQuiet
import Derived.Laws.MakeOwn
namespace Go.Proofs.Ytegbcagcfmijcaa
open Go.RowKit

/-- A run: the row after k entries, what was admitted. -/
def runR (bs : List Bk) (ts cs : List Int) : Nat → List Bk
  | 0 => bs
  | k + 1 => takV (runR bs ts cs k) (nth ts k) (nth cs k)
def runA (bs : List Bk) (ts cs : List Int) : Nat → List Bool
  | 0 => []
  | k + 1 => runA bs ts cs k ++ [takB (runR bs ts cs k) (nth ts k) (nth cs k)]
theorem runA_len (bs : List Bk) (ts cs : List Int) (k : Nat) : (runA bs ts cs k).length = k := by
  induction k with
  | zero => rfl
  | succ k ih => unfold runA; simp [ih]
theorem runR_len (bs : List Bk) (ts cs : List Int) (k : Nat) : (runR bs ts cs k).length = bs.length := by
  induction k with
  | zero => rfl
  | succ k ih => unfold runR; rw [takV_len, ih]
/-- Ticks and costs that a run can take. -/
structure Entries (ts cs : List Int) : Prop where
  len : ts.length ≤ 200
  same : cs.length = ts.length
  tick : ∀ k, k < ts.length → isU (nth ts k)
  cost : ∀ k, k < cs.length → 0 ≤ nth cs k
theorem runR_row {bs : List Bk} {ts cs : List Int} (hr : Row bs) (he : Entries ts cs) : ∀ k, k ≤ ts.length → Row (runR bs ts cs k) := by
  intro k
  induction k with
  | zero => intro _; exact hr
  | succ k ih => intro h; exact (ih (by omega)).tak (he.tick k (by omega)) (he.cost k (by have := he.same; omega))
def runE (ts cs : List Int) : Int := if 200 < ts.length then 4 else if cs.length = ts.length then costE cs else 2
theorem runE_zero {ts cs : List Int} (h : runE ts cs = 0) (ht : ∀ k, k < ts.length → isU (nth ts k)) : Entries ts cs := by
  unfold runE at h
  split at h
  · omega
  · split at h
    · exact ⟨by omega, by assumption, ht, fun k hk => costE_zero h _ (by unfold nth; rw [List.getD_eq_getElem?_getD, List.getElem?_eq_getElem hk]; exact List.getElem_mem hk)⟩
    · omega
theorem Entries.e {ts cs : List Int} (h : Entries ts cs) : runE ts cs = 0 := by
  unfold runE
  rw [if_neg (by have := h.len; omega), if_pos h.same]
  exact costE_yes h.cost

/-- A slice of one-cell values: nil, empty or not. -/
structure Vals (w : World) (at0 : Option Addr) (cap : Nat) (xs : List Value) : Prop where
  room : xs.length ≤ cap
  most : cap ≤ 9223372036854775807
  cells : 0 < xs.length → ∃ b off, at0 = some ⟨b, off, none⟩ ∧ ∀ i v, xs[i]? = some v → w.cell? ⟨b, off + i, none⟩ = some v
  nil : at0 = none → cap = 0
def IsV (w : World) (v : Value) (xs : List Value) : Prop := ∃ at0 cap, v = .slice at0 xs.length cap ∧ Vals w at0 cap xs
theorem Vals.of_cells {w w' : World} {at0 : Option Addr} {cap : Nat} {xs : List Value} (h : Vals w at0 cap xs)
    (hw : ∀ b o v, w.cell? ⟨b, o, none⟩ = some v → w'.cell? ⟨b, o, none⟩ = some v) : Vals w' at0 cap xs :=
  ⟨h.room, h.most, fun h0 => let ⟨b, off, e, hc⟩ := h.cells h0; ⟨b, off, e, fun i v hv => hw _ _ _ (hc i v hv)⟩, h.nil⟩
theorem Vals.below {w w' : World} {at0 : Option Addr} {cap : Nat} {xs : List Value} (h : Vals w at0 cap xs) (hb : Below w.heap.size w w') : Vals w' at0 cap xs :=
  h.of_cells fun b o v hc => by rw [hb.cell (p := ⟨b, o, none⟩) (lt_of_cell' hc)]; exact hc
theorem IsV.below {w w' : World} {v : Value} {xs : List Value} (h : IsV w v xs) (hb : Below w.heap.size w w') : IsV w' v xs :=
  let ⟨a, c, e, hi⟩ := h; ⟨a, c, e, hi.below hb⟩
theorem IsV.alloc {w : World} {v : Value} {xs : List Value} (h : IsV w v xs) (x : Obj) : IsV (w.alloc x) v xs :=
  let ⟨a, c, e, hi⟩ := h; ⟨a, c, e, hi.of_cells fun b o v hc => by rw [World.cell?_alloc_lt _ _ _ (lt_of_cell' hc)]; exact hc⟩
theorem IsV.drew {w : World} {v : Value} {xs : List Value} (h : IsV w v xs) : IsV w.drew v xs := let ⟨a, c, e, hi⟩ := h; ⟨a, c, e, ⟨hi.room, hi.most, hi.cells, hi.nil⟩⟩
theorem IsV.own {w : World} {B e n : Nat} {v : Value} {xs : List Value} (h : w.ownsRow B e 1 v n xs) (hn : n = xs.length) : IsV w v xs := by
  subst hn
  obtain ⟨_, ⟨rfl, h0⟩ | ⟨g, cap, cur, rfl, _, hb, hn, hm, hs, ht⟩⟩ := h
  · have : xs = [] := List.eq_nil_of_length_eq_zero h0
    subst this
    exact ⟨none, 0, rfl, by simp, by omega, fun h => absurd h (by simp), fun _ => rfl⟩
  · refine ⟨some ⟨g, 0, none⟩, cap, rfl, hn, by unfold maxLen at hm; omega, fun _ => ⟨g, 0, rfl, fun i v hv => ?_⟩, fun q => by cases q⟩
    have hi : i < xs.length := by
      rcases Nat.lt_or_ge i xs.length with q | q
      · exact q
      · rw [List.getElem?_eq_none q] at hv; cases hv
    rw [World.cell?]
    simp only [hb]
    have e1 : cur[0 + i]? = (cur.toList.take (xs.length * 1))[i]? := by
      rw [List.getElem?_take_of_lt (by omega), Array.getElem?_toList, Nat.zero_add]
    rw [e1, ht]
    exact hv
def bools (bs : List Bool) : List Value := bs.map Value.bool
theorem bools_len (bs : List Bool) : (bools bs).length = bs.length := by unfold bools; simp
theorem bools_snoc (bs : List Bool) (x : Bool) : bools (bs ++ [x]) = bools bs ++ [.bool x] := by unfold bools; simp
/-- Admitted so far, the rest still false. -/
def admL (aa : List Bool) (r : Nat) : List Value := bools aa ++ List.replicate r (.bool false)
theorem admL_set (aa : List Bool) (r : Nat) (x : Bool) : (admL aa (r + 1)).set aa.length (.bool x) = admL (aa ++ [x]) r := by
  unfold admL
  rw [List.set_append_right _ _ (by rw [bools_len]; exact Nat.le_refl _), bools_len, Nat.sub_self, bools_snoc, List.append_assoc]
  rfl
theorem admL_at (aa : List Bool) (r : Nat) : (admL aa (r + 1))[aa.length]? = some (.bool false) := by
  unfold admL
  rw [List.getElem?_append_right (by rw [bools_len]; exact Nat.le_refl _), bools_len, Nat.sub_self]
  rfl
/-- What a run gives. -/
def GivesRun (zs : List Bk) (aa : List Bool) (c : Int) (w : World) (e : Ending) (w' : World) : Prop :=
  ∃ v u, e = .returned (.tuple #[v, u, .int .i64 c]) ∧ OwnB w.heap.size w' v zs ∧ w'.ownsRow w.heap.size 4 1 u aa.length (bools aa) ∧ Below w.heap.size w w'
theorem ownsV_none {w : World} {base : Nat} {e : TypeId} : w.ownsRow base e 1 (.slice none 0 0) 0 [] := ⟨rfl, Or.inl ⟨rfl, rfl⟩⟩
set_option maxRecDepth 100000 in
theorem info_bool : (Try.prog.info? 4).map (fun i => (i.zero, i.size, i.bytes)) = some (some (.bool false), 1, 1) := by kernel_rfl

set_option maxRecDepth 100000 in
set_option maxHeartbeats 3200000 in
theorem checkrun_is {ts cs : List Int} {n : Int} {at1 at2 : Option Addr} {c1 c2 : Nat} (w : World) (h : Hid (runE ts cs = n)) (hi : Ints w .u64 at1 c1 ts) (hj : Ints w .i64 at2 c2 cs) :
    Calls Try.prog 19 #[.slice at1 ts.length c1, .slice at2 cs.length c2] w fun e w' => e = .returned (.int .i64 n) ∧ w' = w := by
  have i1 := hi.room
  have i2 := hi.most
  have j1 := hj.room
  have j2 := hj.most
  have hE := h.out
  unfold runE at hE
  have HJ := Lib.hid hj
  clear hi hj h
  by_cases q : 200 < ts.length
  · rw [if_pos q] at hE
    subst hE
    have d1 : decide ((200 : Int) < (ts.length : Int)) = true := decide_eq_true (by omega)
    go_enter Try.func19, Try.ntmps19
    go_wp2_with fail
    go_returns
    exact ⟨rfl, rfl⟩
  · rw [if_neg q] at hE
    have d1 : decide ((200 : Int) < (ts.length : Int)) = false := decide_eq_false (by omega)
    by_cases z : cs.length = ts.length
    · rw [if_pos z] at hE
      have d2 : ((cs.length : Int) != (ts.length : Int)) = false := by rw [bne_eq_false_iff_eq]; omega
      have d2' : (cs.length != ts.length) = false := by rw [bne_eq_false_iff_eq]; omega
      have HE := Lib.hid hE
      clear hE z q
      go_enter Try.func19, Try.ntmps19
      go_wp2_with fail
      refine (costs_is _ HE HJ.out).mono ?_
      rintro e w1 ⟨rfl, rfl⟩
      go_wp2_with fail
      go_returns
      exact ⟨rfl, rfl⟩
    · rw [if_neg z] at hE
      subst hE
      have d2 : ((cs.length : Int) != (ts.length : Int)) = true := by rw [bne_iff_ne]; omega
      have d2' : (cs.length != ts.length) = true := by rw [bne_iff_ne]; omega
      clear z q
      go_enter Try.func19, Try.ntmps19
      go_wp2_with fail
      go_returns
      exact ⟨rfl, rfl⟩

set_option maxRecDepth 100000 in
set_option maxHeartbeats 3200000 in
theorem cloner_is {bs : List Bk} {v : Value} {w : World} (hl : bs.length ≤ 8) (h1 : IsB w v bs) :
    Calls Try.prog 20 #[v] w (GivesR bs w) := by
  obtain ⟨n, hn⟩ : ∃ n, bs.length = n := ⟨_, rfl⟩
  obtain ⟨at0, cap, rfl, i1, i2, HB⟩ := h1.openN hn
  have HL := Lib.hid hn
  have hn8 : n ≤ 8 := by omega
  clear hn h1 hl
  obtain ⟨ti, hin, hz0, hz1, hz2⟩ := info_parts info_bucket
  have hnil := fun (W : World) => Lib.run_eql_slice_nil (P := Try.prog) W 22 27 at0 n cap 0 0 Try.underlying22
  cases at0 with
  | none =>
    obtain rfl : cap = 0 := HB.out.nil rfl
    obtain rfl : n = 0 := by omega
    have hbs : bs = [] := List.eq_nil_of_length_eq_zero HL.out
    subst hbs
    go_enter Try.func20, Try.ntmps20
    go_wp2_with fail
    go_returns
    exact ⟨_, rfl, OwnB.nil, Below.refl _ _⟩
  | some ad =>
    go_enter Try.func20, Try.ntmps20
    go_wp2_with (at_builtin; refine wpList_append_row (by rfl) _ _ 22 (by rfl) w.heap.size 27 ti _ 48 Try.underlying22 hin hz0 hz1 hz2 rfl _ 0 [] (by rfl) (own_empty (Nat.le_refl _)) (some ad) cap n bs HL.out (by rfl) (HB.out.alloc _) (by unfold maxLen; omega) (by omega) (by simp) ?_; intro v9 w9 hown9 hgrow)
    have hB2 := ((Below.refl w.heap.size w).alloc (Nat.le_refl _) (.cells #[] 27)).grown hgrow (by simp) (own_blocks (own_empty (e := 27) (Nat.le_refl _)))
    have OW : Hid (OwnB w.heap.size w9 v9 bs) := Lib.hid (by
      unfold OwnB
      rw [HL.out]
      simpa using hown9)
    clear hown9 hgrow
    go_returns
    exact ⟨_, rfl, OW.out, hB2⟩

/-- What is said of a row and a run. -/
def runC (bs : List Bk) (ts cs : List Int) : Int := orI (rowE bs) (runE ts cs)
theorem runC_zero {bs : List Bk} {ts cs : List Int} (h : runC bs ts cs = 0) : rowE bs = 0 ∧ runE ts cs = 0 := orI_zero h

set_option maxRecDepth 100000 in
set_option maxHeartbeats 3200000 in
theorem lrun_no {bs : List Bk} {ts cs : List Int} {at1 at2 : Option Addr} {c1 c2 : Nat} {v : Value} {w : World} {n : Int} (h : Hid (runC bs ts cs = n)) (hn : n ≠ 0) (h1 : IsB w v bs) (hi : Ints w .u64 at1 c1 ts) (hj : Ints w .i64 at2 c2 cs) :
    Calls Try.prog 9 #[v, .slice at1 ts.length c1, .slice at2 cs.length c2] w (GivesRun [] [] n w) := by
  obtain ⟨r, er⟩ : ∃ x, rowE bs = x := ⟨_, rfl⟩
  obtain ⟨q, eq⟩ : ∃ x, runE ts cs = x := ⟨_, rfl⟩
  have HO := Lib.hid (show orI r q = n by rw [← er, ← eq]; exact h.out)
  have HE := Lib.hid er
  have HC := Lib.hid eq
  have H0 := Lib.hid h1
  have I0 := Lib.hid hi
  have J0 := Lib.hid hj
  have i1 := hi.room
  have i2 := hi.most
  have d1 := wrong_ne hn
  clear er eq h1 hi hj
  go_enter Try.func9, Try.ntmps9
  go_wp2_with fail
  refine (checkr_is HE H0.out).mono ?_
  rintro e w1 ⟨rfl, hb⟩
  have hB1 : Below w.heap.size w w1 := below_thru (by go_grown) hb
  have hs1 := hB1.size
  have H1 : Hid (IsB w1 v bs) := Lib.hid (H0.out.below hb)
  have I1 := Lib.hid (I0.out.below hb)
  have J1 := Lib.hid (J0.out.below hb)
  clear hb
  go_wp2_with fail
  refine (checkrun_is _ HC I1.out J1.out).mono ?_
  rintro e _ ⟨rfl, rfl⟩
  go_wp2_with fail
  refine (ore_is _ _ HO (by go_cell) (by go_cell)).mono ?_
  rintro e _ ⟨rfl, rfl⟩
  go_wp2_with fail
  go_returns
  exact ⟨_, _, rfl, OwnB.nil, ownsV_none, by go_grown⟩

set_option maxRecDepth 100000 in
set_option maxHeartbeats 12800000 in
theorem lrun_ok {bs : List Bk} {ts cs : List Int} {at1 at2 : Option Addr} {c1 c2 : Nat} {v : Value} {w : World} {zs : List Bk} {aa : List Bool} (hr : Row bs) (he : Entries ts cs) (hz : Hid (runR bs ts cs ts.length = zs)) (ha : Hid (runA bs ts cs ts.length = aa)) (h1 : IsB w v bs) (hi : Ints w .u64 at1 c1 ts) (hj : Ints w .i64 at2 c2 cs) :
    Calls Try.prog 9 #[v, .slice at1 ts.length c1, .slice at2 cs.length c2] w (GivesRun zs aa 0 w) := by
  have HE := Lib.hid hr.e
  have HC := Lib.hid he.e
  have HO := Lib.hid (show orI 0 0 = 0 from rfl)
  have H0 := Lib.hid h1
  have I0 := Lib.hid hi
  have J0 := Lib.hid hj
  have i1 := hi.room
  have i2 := hi.most
  have i3 := hj.room
  have i4 := hj.most
  obtain ⟨n, hn⟩ : ∃ n, ts.length = n := ⟨_, rfl⟩
  obtain ⟨m, hm⟩ : ∃ m, cs.length = m := ⟨_, rfl⟩
  have hmn : m = n := by have := he.same; omega
  have hn2 : n ≤ 200 := by have := he.len; omega
  have HR := Lib.hid hr
  have HT := Lib.hid he
  have HN := Lib.hid hn
  have HM := Lib.hid hm
  subst hmn
  clear h1 hi hj hr he
  rw [hn] at i1
  rw [hm] at i3
  have con : ∀ W, Ints W .u64 at1 c1 ts → Ints W .i64 at2 c2 cs → Calls Try.prog 19 #[.slice at1 m c1, .slice at2 m c2] W fun e w' => e = .returned (.int .i64 0) ∧ w' = W := fun W h1 h2 => by
    have := checkrun_is W HC h1 h2
    rwa [hn, hm] at this
  have HCON := Lib.hid con
  rw [hn, hm]
  clear con hn hm
  obtain ⟨tb, hbn, hy0, hy1, hy2⟩ := info_parts info_bool
  go_enter Try.func9, Try.ntmps9
  go_wp2_with fail
  refine (checkr_is HE H0.out).mono ?_
  rintro e w1 ⟨rfl, hb⟩
  have hB1 : Below w.heap.size w w1 := below_thru (by go_grown) hb
  have hs1 := hB1.size
  have H1 : Hid (IsB w1 v bs) := Lib.hid (H0.out.below hb)
  have I1 := Lib.hid (I0.out.below hb)
  have J1 := Lib.hid (J0.out.below hb)
  clear hb
  go_wp2_with fail
  refine (HCON.out _ I1.out J1.out).mono ?_
  rintro e _ ⟨rfl, rfl⟩
  go_wp2_with fail
  refine (ore_is _ _ HO (by go_cell) (by go_cell)).mono ?_
  rintro e _ ⟨rfl, rfl⟩
  go_wp2_with fail
  refine (cloner_is HR.out.len (H1.out.alloc _)).mono ?_
  rintro e w2 ⟨v2, rfl, ho, hb⟩
  have hB2 : Below w.heap.size w w2 := below_thru (by go_grown) hb
  have hs2 := hB2.size
  have O2 : Hid (OwnB w.heap.size w2 v2 bs) := Lib.hid (ho.base (by simp; omega))
  clear hb ho hB1 hs1 H1 I1 J1
  obtain ⟨w3, hmk, hadm, hgrow⟩ := run_make_full (P := Try.prog) w2 w.heap.size 38 4 tb (.bool false) 1 Try.underlying38 hbn hy0 hy1 .i64 .i64 m (by rw [hy2]; omega) (by unfold maxLen; omega) hs2
  rw [Nat.mul_one] at hadm
  have hadm : w3.ownsRow w.heap.size 4 1 (.slice (some ⟨w2.heap.size, 0, none⟩) m m) m (List.replicate m (.bool false)) := by
    have := hadm
    rw [show (Value.cells (.bool false)) = #[.bool false] from rfl, toList_madeCells_one] at this
    exact this
  have hB3 := hB2.grown hgrow hs2 (fun k h => by cases h)
  have O3 : Hid (OwnB w.heap.size w3 v2 bs) := Lib.hid (by
    have : Below w2.heap.size w2 w3 := (Below.refl _ _).grown hgrow (Nat.le_refl _) (fun k h => by cases h)
    exact O2.out.below this)
  have hg0 : w.heap.size ≤ w2.heap.size := hs2
  obtain ⟨g, eg⟩ : ∃ g, w2.heap.size = g := ⟨_, rfl⟩
  rw [eg] at hmk hadm hg0
  clear O2 hgrow hB2
  go_upto_region 6 with fail
  clear hmk eg hs2
  have hA0 := Lib.hid hadm
  clear hadm
  go_wp2_with fail
  go_loopw [10, 30] (fun s10 s30 wr => ∃ k : Nat, s30 = .int .i64 k ∧ k ≤ m ∧ Hid (OwnB w.heap.size wr s10 (runR bs ts cs k)) ∧ Hid (wr.ownsRow w.heap.size 4 1 (.slice (some ⟨g, 0, none⟩) m m) m (admL (runA bs ts cs k) (m - k))) ∧ Below w.heap.size w wr) (fun _ s30 _ => m - (intOf s30).toNat)
  case atStart => exact ⟨0, rfl, by omega, O3, Lib.hid (by rw [Nat.sub_zero]; exact hA0.out), hB3⟩
  case round =>
    obtain ⟨k, rfl, hk, HROW, HADM, hB⟩ := hrel
    clear O3 hA0 hB3
    have hs := hB.size
    by_cases hlt : k < m
    case neg =>
      obtain rfl : k = m := by omega
      have O4 : Hid (OwnB w.heap.size wr u10 zs) := Lib.hid (by rw [← hz.out, HN.out]; exact HROW.out)
      have A4 : Hid (wr.ownsRow w.heap.size 4 1 (.slice (some ⟨g, 0, none⟩) k k) aa.length (bools aa)) := Lib.hid (by
        have := HADM.out
        rw [Nat.sub_self] at this
        unfold admL at this
        rw [List.replicate_zero, List.append_nil] at this
        have e : runA bs ts cs k = aa := by rw [← ha.out, HN.out]
        rw [e] at this
        have e2 : aa.length = k := by rw [← e, runA_len]
        rw [e2]
        exact this)
      go_wp2_with fail
      go_returns
      exact ⟨_, _, rfl, O4.out, A4.out, hB⟩
    case pos =>
      obtain ⟨b1, o1, rfl, T0⟩ := I0.out.at (show k < ts.length by have := HN.out; omega)
      obtain ⟨b2, o2, rfl, C0⟩ := J0.out.at (show k < cs.length by have := HM.out; omega)
      have hti : isU (nth ts k) := HT.out.tick k (by have := HN.out; omega)
      have hci : 0 ≤ nth cs k := HT.out.cost k (by have := HM.out; omega)
      obtain ⟨tk, etk⟩ : ∃ x, nth ts k = x := ⟨_, rfl⟩
      obtain ⟨co, eco⟩ : ∃ x, nth cs k = x := ⟨_, rfl⟩
      rw [etk] at T0 hti
      rw [eco] at C0 hci
      have zt := lt_of_cell T0
      have zc := lt_of_cell C0
      have ct := cell_below hB T0
      have cc := cell_below hB C0
      have hkm : (k : Int) < (m : Int) := by omega
      have hk0 : (0 : Int) ≤ (k : Int) := by omega
      obtain ⟨rs, ers⟩ : ∃ x, runR bs ts cs k = x := ⟨_, rfl⟩
      obtain ⟨z2, ez2⟩ : ∃ x, takV rs tk co = x := ⟨_, rfl⟩
      obtain ⟨x2, ex2⟩ : ∃ x, takB rs tk co = x := ⟨_, rfl⟩
      have hrow : Row rs := by rw [← ers]; exact runR_row HR.out HT.out k (by have := HN.out; omega)
      have er1 : runR bs ts cs (k + 1) = z2 := by rw [← ez2, ← ers, ← etk, ← eco]; rfl
      have ea1 : runA bs ts cs (k + 1) = runA bs ts cs k ++ [x2] := by rw [← ex2, ← ers, ← etk, ← eco]; rfl
      have hadm := HADM.out
      rw [show m - k = (m - (k + 1)) + 1 by omega] at hadm
      have hst := fun (W : World) (h : W.ownsRow w.heap.size 4 1 (.slice (some ⟨g, 0, none⟩) m m) m (admL (runA bs ts cs k) ((m - (k + 1)) + 1))) => (h.stored k (.bool x2)).1
      have e8 : (admL (runA bs ts cs k) ((m - (k + 1)) + 1)).set k (.bool x2) = admL (runA bs ts cs (k + 1)) (m - (k + 1)) := by
        have := admL_set (runA bs ts cs k) (m - (k + 1)) x2
        rw [runA_len] at this
        rw [this, ea1]
      have e9 : (admL (runA bs ts cs k) ((m - (k + 1)) + 1))[k]? = some (.bool false) := by
        have := admL_at (runA bs ts cs k) (m - (k + 1))
        rw [runA_len] at this
        exact this
      have hgl := (hadm.lt g rfl).2
      have HST := Lib.hid hst
      have HAD := Lib.hid hadm
      have E8 := Lib.hid e8
      have E9 := Lib.hid e9
      have HRS : Hid (IsB wr.drew u10 rs) := Lib.hid (by have := HROW.out.is.drew; rwa [ers] at this)
      have HRW := Lib.hid hrow
      have EZ := Lib.hid ez2
      have EX := Lib.hid ex2
      have ER := Lib.hid er1
      clear etk eco ers hrow ez2 ex2 er1 ea1 hadm hst e8 e9 HROW HADM
      obtain ⟨wo, rfl⟩ : ∃ u : World, u = wr := ⟨_, rfl⟩
      go_wp2_with fail
      go_region_held3 (fun w' => w'.cell? ⟨b1, o1 + k, none⟩ = some (.int .u64 tk) ∧ w'.cell? ⟨b2, o2 + k, none⟩ = some (.int .i64 co)) (((repeat' apply And.intro) <;> (first | (go_keep; done) | go_cell)))
        ((go_at_call 16; refine (taker_is HRW.out hti hci EZ EX HRS.out).mono ?_; rintro e v1 ⟨vz, rfl, ho, hv1⟩; have hV1 : Below wo.heap.size wo v1 := below_thru (by go_grown) hv1; have hs_v1 := hV1.size; have c_t := cell_below hV1 ct; have c_c := cell_below hV1 cc; have hadv := own_below HAD.out hV1; have hcg := (hadv.cellAt k (by omega)).trans E9.out; have hfg := hadv.frozenAt k; have hov := Lib.hid ho; clear ho))
      all_goals
        go_wp2_with fail
        go_roundw
        case rel =>
          refine ⟨k + 1, by go_num, by omega, Lib.hid ?_, Lib.hid ?_, (hB.trans (hV1.mono hs)).setCell hg0 _⟩
          · rw [ER.out]
            have h7 : OwnB wo.heap.size v1 vz z2 := hov.out
            exact OwnB.base (ownsRow_setCell_below h7 (a := ⟨g, k, none⟩) hgl (.bool x2)) hs
          · rw [← E8.out]
            exact HST.out v1 hadv
        case measure => simp [intOf]; omega

end Go.Proofs.Ytegbcagcfmijcaa
