/-
  Rows of buckets: a bucket refilled and charged; a slice value that reads as a row, kept while the world grows; a row that came in, opened.
-/
import Derived.Test.YtegbcagcfmijcaaLawL03
import Derived.Laws.AppendOwn
import Derived.Laws.AppendOwnNone
import Derived.Laws.OwnMore
import Derived.BigFrame
import Derived.Deep.Slices
import Derived.Deep.AppendLies
namespace Go.Proofs.Ytegbcagcfmijcaa
open Go.ChangeShapes Go.WideShapes Go.ChangeAt Go.RowKit Go.Joins

/-- A bucket's numbers. -/
structure Bk where
  bu : Int
  ra : Int
  pe : Int
  le : Int
  pt : Int
  a : Int
/-- Its cells. -/
def Bk.vals (b : Bk) : List Value := [.int .i64 b.bu, .int .i64 b.ra, .int .i64 b.pe, .int .i64 b.le, .int .i64 b.pt, .int .u64 b.a]
def Bk.err (b : Bk) : Int := bucE b.bu b.ra b.pe b.le b.pt
def Bk.fil (t : Int) (b : Bk) : Bk := ⟨b.bu, b.ra, b.pe, filL b.bu b.ra b.pe b.le b.pt b.a t, filP b.bu b.ra b.pe b.le b.pt b.a t, filA b.a t⟩
def Bk.chg (c : Int) (b : Bk) : Bk := ⟨b.bu, b.ra, b.pe, b.le - c, b.pt, b.a⟩
def Bk.Ok (b : Bk) : Prop := Buc b.bu b.ra b.pe b.le b.pt b.a
theorem Bk.Ok.fil {b : Bk} (h : b.Ok) {t : Int} (ht : isU t) : (b.fil t).Ok := h.filled ht
theorem Bk.Ok.chg {b : Bk} (h : b.Ok) {c : Int} (h0 : 0 ≤ c) (h1 : c ≤ b.le) : (b.chg c).Ok := h.charged h0 h1
/-- The bucket at an index; kept closed. -/
def bk (bs : List Bk) (i : Nat) : Bk := bs.getD i ⟨0, 0, 0, 0, 0, 0⟩
theorem bk_get {bs : List Bk} {i : Nat} (h : i < bs.length) : bk bs i = bs[i] := by
  unfold bk
  rw [List.getD_eq_getElem?_getD, List.getElem?_eq_getElem h, Option.getD_some]
theorem bk_mem {bs : List Bk} {i : Nat} (h : i < bs.length) : bk bs i ∈ bs := by
  rw [bk_get h]
  exact List.getElem_mem h
theorem bk_map {bs : List Bk} {i : Nat} (f : Bk → Bk) (h : i < bs.length) : bk (bs.map f) i = f (bk bs i) := by
  rw [bk_get h, bk_get (by simpa using h), List.getElem_map]
theorem take_succ_bk {bs : List Bk} {i : Nat} (h : i < bs.length) : bs.take (i + 1) = bs.take i ++ [bk bs i] := by
  rw [bk_get h]
  exact List.take_succ_eq_append_getElem h
theorem ext_bk {xs ys : List Bk} (hl : xs.length = ys.length) (h : ∀ i, i < xs.length → bk xs i = bk ys i) : xs = ys :=
  List.ext_getElem hl fun i h1 h2 => by have := h i h1; rwa [bk_get h1, bk_get h2] at this

/-- A row, as a slice value reads in a world: nil, empty or not. -/
structure Bks (w : World) (at0 : Option Addr) (cap : Nat) (bs : List Bk) : Prop where
  room : bs.length ≤ cap
  most : cap ≤ 9223372036854775807
  cells : 0 < bs.length → ∃ b off, at0 = some ⟨b, off, none⟩ ∧ ∀ i, i < bs.length → ∀ j v, (bk bs i).vals[j]? = some v → w.cell? ⟨b, off + i * 6 + j, none⟩ = some v
  nil : at0 = none → cap = 0
def IsB (w : World) (v : Value) (bs : List Bk) : Prop := ∃ at0 cap, v = .slice at0 bs.length cap ∧ Bks w at0 cap bs
theorem Bks.at {w : World} {at0 : Option Addr} {cap : Nat} {bs : List Bk} (h : Bks w at0 cap bs) {i : Nat} (hi : i < bs.length) :
    ∃ b off bu ra pe le pt a, at0 = some ⟨b, off, none⟩ ∧ bk bs i = ⟨bu, ra, pe, le, pt, a⟩ ∧ w.cell? ⟨b, off + i * 6, none⟩ = some (.int .i64 bu) ∧ w.cell? ⟨b, off + i * 6 + 1, none⟩ = some (.int .i64 ra) ∧ w.cell? ⟨b, off + i * 6 + 2, none⟩ = some (.int .i64 pe) ∧
      w.cell? ⟨b, off + i * 6 + 3, none⟩ = some (.int .i64 le) ∧ w.cell? ⟨b, off + i * 6 + 4, none⟩ = some (.int .i64 pt) ∧ w.cell? ⟨b, off + i * 6 + 5, none⟩ = some (.int .u64 a) := by
  obtain ⟨b, off, e, hc⟩ := h.cells (by omega)
  have hc := hc i hi
  obtain ⟨⟨bu, ra, pe, le, pt, a⟩, eb⟩ : ∃ x, bk bs i = x := ⟨_, rfl⟩
  rw [eb] at hc
  exact ⟨b, off, bu, ra, pe, le, pt, a, e, eb, hc 0 _ rfl, hc 1 _ rfl, hc 2 _ rfl, hc 3 _ rfl, hc 4 _ rfl, hc 5 _ rfl⟩
theorem Bks.of_cells {w w' : World} {at0 : Option Addr} {cap : Nat} {bs : List Bk} (h : Bks w at0 cap bs)
    (hw : ∀ b o v, w.cell? ⟨b, o, none⟩ = some v → w'.cell? ⟨b, o, none⟩ = some v) : Bks w' at0 cap bs :=
  ⟨h.room, h.most, fun h0 => let ⟨b, off, e, hc⟩ := h.cells h0; ⟨b, off, e, fun i hi j v hv => hw _ _ _ (hc i hi j v hv)⟩, h.nil⟩
theorem Bks.below {w w' : World} {at0 : Option Addr} {cap : Nat} {bs : List Bk} (h : Bks w at0 cap bs) (hb : Below w.heap.size w w') : Bks w' at0 cap bs :=
  h.of_cells fun b o v hc => by rw [hb.cell (p := ⟨b, o, none⟩) (lt_of_cell' hc)]; exact hc
theorem Bks.none (w : World) : Bks w none 0 [] := ⟨Nat.le_refl _, by omega, fun h => absurd h (by simp), fun _ => rfl⟩
theorem IsB.of_cells {w w' : World} {v : Value} {bs : List Bk} (h : IsB w v bs) (hw : ∀ b o v, w.cell? ⟨b, o, Option.none⟩ = some v → w'.cell? ⟨b, o, Option.none⟩ = some v) : IsB w' v bs :=
  let ⟨a, c, e, hi⟩ := h; ⟨a, c, e, hi.of_cells hw⟩
theorem IsB.below {w w' : World} {v : Value} {bs : List Bk} (h : IsB w v bs) (hb : Below w.heap.size w w') : IsB w' v bs :=
  h.of_cells fun b o v hc => by rw [hb.cell (p := ⟨b, o, Option.none⟩) (lt_of_cell' hc)]; exact hc
theorem IsB.alloc {w : World} {v : Value} {bs : List Bk} (h : IsB w v bs) (x : Obj) : IsB (w.alloc x) v bs :=
  h.of_cells fun b o v hc => by rw [World.cell?_alloc_lt _ _ _ (lt_of_cell' hc)]; exact hc
theorem IsB.drew {w : World} {v : Value} {bs : List Bk} (h : IsB w v bs) : IsB w.drew v bs := let ⟨a, c, e, hi⟩ := h; ⟨a, c, e, ⟨hi.room, hi.most, hi.cells, hi.nil⟩⟩
theorem IsB.drewN {w : World} {v : Value} {bs : List Bk} (h : IsB w v bs) (n : Nat) : IsB (w.drewN n) v bs := let ⟨a, c, e, hi⟩ := h; ⟨a, c, e, ⟨hi.room, hi.most, hi.cells, hi.nil⟩⟩
theorem IsB.none {w : World} : IsB w (.slice none 0 0) [] := ⟨Option.none, 0, rfl, Bks.none w⟩

/-- All cells of a row, one behind the other. -/
def flat (bs : List Bk) : List Value := bs.flatMap Bk.vals
theorem flat_len (bs : List Bk) : (flat bs).length = bs.length * 6 := by
  induction bs with
  | nil => rfl
  | cons b bs ih => unfold flat at *; simp [Bk.vals, ih]; omega
theorem flat_snoc (bs : List Bk) (b : Bk) : flat (bs ++ [b]) = flat bs ++ b.vals := by unfold flat; simp
theorem flat_at : ∀ {bs : List Bk} {i j : Nat} {v : Value}, i < bs.length → (bk bs i).vals[j]? = some v → (flat bs)[i * 6 + j]? = some v := by
  intro bs
  induction bs with
  | nil => intro i j v h; simp at h
  | cons b bs ih =>
    intro i j v hi hv
    have hj : j < 6 := by
      rcases Nat.lt_or_ge j 6 with q | q
      · exact q
      · rw [List.getElem?_eq_none (by simpa [Bk.vals] using q)] at hv; cases hv
    have e : flat (b :: bs) = b.vals ++ flat bs := by unfold flat; simp
    rw [e]
    cases i with
    | zero =>
      have : bk (b :: bs) 0 = b := rfl
      rw [this] at hv
      rw [Nat.zero_mul, Nat.zero_add, List.getElem?_append_left (by simpa [Bk.vals] using hj)]
      exact hv
    | succ i =>
      have : bk (b :: bs) (i + 1) = bk bs i := rfl
      rw [this] at hv
      rw [List.getElem?_append_right (by simp [Bk.vals]; omega)]
      have e2 : (i + 1) * 6 + j - b.vals.length = i * 6 + j := by simp [Bk.vals]; omega
      rw [e2]
      exact ih (by simpa using hi) hv
/-- What an append has made reads so. -/
theorem IsB.own {w : World} {B e n : Nat} {v : Value} {bs : List Bk} (h : w.ownsRow B e 6 v n (flat bs)) (hn : n = bs.length) : IsB w v bs := by
  subst hn
  obtain ⟨_, ⟨rfl, h0⟩ | ⟨g, cap, cur, rfl, _, hb, hn, hm, hs, ht⟩⟩ := h
  · have : bs = [] := List.eq_nil_of_length_eq_zero h0
    subst this
    exact IsB.none
  · refine ⟨some ⟨g, 0, Option.none⟩, cap, rfl, hn, by unfold maxLen at hm; omega, fun _ => ⟨g, 0, rfl, fun i hi j v hv => ?_⟩, fun q => by cases q⟩
    have hf := flat_at hi hv
    have hj : j < 6 := by
      rcases Nat.lt_or_ge j 6 with q | q
      · exact q
      · rw [List.getElem?_eq_none (by simpa [Bk.vals] using q)] at hv; cases hv
    rw [World.cell?]
    simp only [hb]
    have e1 : cur[0 + i * 6 + j]? = (cur.toList.take (bs.length * 6))[i * 6 + j]? := by
      rw [List.getElem?_take_of_lt (by omega), Array.getElem?_toList, Nat.zero_add]
    rw [e1, ht]
    exact hf
theorem IsB.built {w : World} {b n m : Nat} {c : Array Value} {t : TypeId} (bs : List Bk) (hb : b = w.heap.size) (hc : c = (flat bs).toArray) (hn : n = bs.length) (hm : m = bs.length) (hl : bs.length ≤ 1000) : IsB (w.alloc (.cells c t)) (.slice (some ⟨b, 0, Option.none⟩) n m) bs := by
  subst hb hc hn hm
  refine IsB.own (B := w.heap.size) (e := t) (n := bs.length) ⟨flat_len bs, Or.inr ⟨w.heap.size, bs.length, (flat bs).toArray, rfl, Nat.le_refl _, heap_alloc_new w _, Nat.le_refl _, by unfold maxLen; omega, by simp [flat_len], ?_⟩⟩ rfl
  rw [List.take_of_length_le (by simp [flat_len])]
theorem ownsB_none {w : World} {base : Nat} {e : TypeId} : w.ownsRow base e 6 (.slice none 0 0) 0 (flat []) := ⟨rfl, Or.inl ⟨rfl, rfl⟩⟩

/-- Rows of the call's own. -/
theorem own_blocks {w' : World} {B e s n : Nat} {v : Value} {l : List Value} (h : w'.ownsRow B e s v n l) : ∀ k, v.ownBlock = some k → B ≤ k := by
  obtain ⟨_, ⟨rfl, _⟩ | ⟨g, cap, cur, rfl, hb, _⟩⟩ := h
  · intro k hk; cases hk
  · intro k hk; cases hk; exact hb
theorem own_below {w w' : World} {B e s n : Nat} {v : Value} {l : List Value} (h : w.ownsRow B e s v n l) (hb : Below w.heap.size w w') : w'.ownsRow B e s v n l := by
  obtain ⟨h1, h2 | ⟨g, cap, cur, h3, hg, h4, h5⟩⟩ := h
  · exact ⟨h1, .inl h2⟩
  · refine ⟨h1, .inr ⟨g, cap, cur, h3, hg, ?_, h5⟩⟩
    rw [hb.block g (by
      rcases Nat.lt_or_ge g w.heap.size with q | q
      · exact q
      · rw [Array.getElem?_eq_none q] at h4; cases h4)]
    exact h4
theorem own_base {w' : World} {B B' e s n : Nat} {v : Value} {l : List Value} (h : w'.ownsRow B e s v n l) (hB : B' ≤ B) : w'.ownsRow B' e s v n l := by
  obtain ⟨h1, h2 | ⟨g, cap, cur, h3, hg, h4⟩⟩ := h
  · exact ⟨h1, .inl h2⟩
  · exact ⟨h1, .inr ⟨g, cap, cur, h3, by omega, h4⟩⟩
def OwnB (B : Nat) (w : World) (v : Value) (bs : List Bk) : Prop := w.ownsRow B 27 6 v bs.length (flat bs)
theorem OwnB.is {B : Nat} {w : World} {v : Value} {bs : List Bk} (h : OwnB B w v bs) : IsB w v bs := IsB.own h rfl
theorem OwnB.below {B : Nat} {w w' : World} {v : Value} {bs : List Bk} (h : OwnB B w v bs) (hb : Below w.heap.size w w') : OwnB B w' v bs := own_below h hb
theorem OwnB.base {B B' : Nat} {w : World} {v : Value} {bs : List Bk} (h : OwnB B w v bs) (hB : B' ≤ B) : OwnB B' w v bs := own_base h hB
theorem OwnB.nil {B : Nat} {w : World} : OwnB B w (.slice none 0 0) [] := ⟨rfl, Or.inl ⟨rfl, rfl⟩⟩
set_option maxRecDepth 100000 in
theorem info_bucket : (Try.prog.info? 27).map (fun i => (i.zero, i.size, i.bytes)) = some (some (.agg #[.int .i64 0, .int .i64 0, .int .i64 0, .int .i64 0, .int .i64 0, .int .u64 0]), 6, 48) := by kernel_rfl
/-- What a call gives: a row; a row and an error; a row, an answer (and an error). -/
def GivesR (bs : List Bk) (w : World) (e : Ending) (w' : World) : Prop := ∃ v, e = .returned v ∧ OwnB w.heap.size w' v bs ∧ Below w.heap.size w w'
def GivesRE (bs : List Bk) (c : Int) (w : World) (e : Ending) (w' : World) : Prop := ∃ v, e = .returned (.tuple #[v, .int .i64 c]) ∧ OwnB w.heap.size w' v bs ∧ Below w.heap.size w w'
def GivesRB (bs : List Bk) (b : Bool) (w : World) (e : Ending) (w' : World) : Prop := ∃ v, e = .returned (.tuple #[v, .bool b]) ∧ OwnB w.heap.size w' v bs ∧ Below w.heap.size w w'
def GivesRBE (bs : List Bk) (b : Bool) (c : Int) (w : World) (e : Ending) (w' : World) : Prop := ∃ v, e = .returned (.tuple #[v, .bool b, .int .i64 c]) ∧ OwnB w.heap.size w' v bs ∧ Below w.heap.size w w'

set_option maxRecDepth 100000 in
/-- A row that came in. -/
theorem open_row {H : Type} {enc : TypeId × Value → H} {W : World} {r : Reach} {b0 : Nat} {v : Value} {d : DataW H} {p : List MemPlace}
    (hv : Value.okWide Try.prog W r b0 22 v) (h : DataW.Trod enc Try.prog W 0 (fun _ => true) true 22 v d p) :
    ∃ bs : List Bk, IsB W v bs ∧ (∀ b ∈ bs, isU b.a) := by
  obtain ⟨a, len, cap, rfl⟩ := okWide_slice Try.underlying22 hv
  obtain ⟨fuel, hf⟩ := h
  have h6 : Try.prog.cellsOf 27 = 6 := by kernel_rfl
  have hc : Try.prog.cellsOf 2 = 1 := by kernel_rfl
  have hu : Try.prog.cellsOf 25 = 1 := by kernel_rfl
  have hL : Try.prog.cellsOf 24 = 3 := by kernel_rfl
  rcases Go.Deep.open_slice Try.underlying22 (cs := [.slice a len cap]) hf with ⟨hcs, _⟩ | ⟨ad, len', cap', m, n, D, Pl, hcs, hb, hl, hm, hmm, hx, hi⟩
  · simp at hcs
    obtain ⟨rfl, rfl, rfl⟩ := hcs
    exact ⟨[], IsB.none, fun b hb => by cases hb⟩
  · simp at hcs
    obtain ⟨rfl, rfl, rfl⟩ := hcs
    simp only [if_true] at hmm
    subst hmm
    have each : ∀ i, i < len → ∃ b : Bk, isU b.a ∧ ∀ j v, b.vals[j]? = some v → W.cell? (ad.add (i * 6 + j)) = some v := by
      intro i hil
      obtain ⟨cs', hcs', ht⟩ := hi i (by omega)
      rw [h6] at hcs'
      obtain ⟨_, hlen, hat⟩ := World.cells?_some hcs'
      obtain ⟨c0, c1, c2, c3, c4, c5, rfl⟩ : ∃ c0 c1 c2 c3 c4 c5, cs' = [c0, c1, c2, c3, c4, c5] := by
        match cs', hlen with
        | [c0, c1, c2, c3, c4, c5], _ => exact ⟨c0, c1, c2, c3, c4, c5, rfl⟩
      obtain ⟨y0, y1, y2, y3, n, _, _, h0, h1, h2, h3⟩ := trod_struct4 Try.underlying27 ht
      simp [hL] at h0
      obtain ⟨x0, x1, x2, rfl, rfl, rfl, _⟩ := open_limit_cells h0
      obtain ⟨a1, e1, _, w1⟩ := DataW.trod_int Try.underlying2 h1
      obtain ⟨a2, e2, _, w2⟩ := DataW.trod_int Try.underlying2 h2
      obtain ⟨a3, e3, _, w3⟩ := DataW.trod_int Try.underlying25 h3
      simp [hc, hu] at e1 e2 e3
      subst e1 e2 e3
      refine ⟨⟨x0, x1, x2, a1, a2, a3⟩, bounds_u64 w3, fun j v hv => ?_⟩
      have hj : j < 6 := by
        rcases Nat.lt_or_ge j 6 with q | q
        · exact q
        · rw [List.getElem?_eq_none (by simpa [Bk.vals] using q)] at hv; cases hv
      rw [← Go.Deep.add_add, hat j hj]
      exact hv
    rcases Nat.eq_zero_or_pos len with q | q
    · subst q
      exact ⟨[], ⟨some ad, _, rfl, by simp, by unfold maxLen at hm; omega, fun q => absurd q (by simp), fun q => by cases q⟩, fun b hb => by cases hb⟩
    obtain ⟨b, off, spot⟩ := ad
    have hspot : spot = none := by
      obtain ⟨b0, _, hb0⟩ := each 0 q
      simpa [Addr.add] using World.cell?_spot (hb0 0 _ rfl)
    subst hspot
    have hex : ∃ f : Nat → Bk, ∀ i, i < len → isU (f i).a ∧ ∀ j v, (f i).vals[j]? = some v → W.cell? (Addr.add ⟨b, off, none⟩ (i * 6 + j)) = some v :=
      ⟨fun i => if h : i < len then Classical.choose (each i h) else ⟨0, 0, 0, 0, 0, 0⟩, fun i h => by dsimp only; rw [dif_pos h]; exact Classical.choose_spec (each i h)⟩
    obtain ⟨f, hfi⟩ := hex
    have hlen : ((List.range len).map f).length = len := by simp
    have hbk : ∀ i, i < len → bk ((List.range len).map f) i = f i := fun i h => by rw [bk_get (by omega)]; simp
    refine ⟨(List.range len).map f, ⟨some ⟨b, off, none⟩, _, by rw [hlen], by omega, by unfold maxLen at hm; omega, fun _ => ⟨b, off, rfl, fun i hi j v hv => ?_⟩, fun q => by cases q⟩, fun x hx => ?_⟩
    · rw [hlen] at hi
      rw [hbk i hi] at hv
      have := (hfi i hi).2 j v hv
      rw [Go.WideShapes.add_plain] at this
      rw [Nat.add_assoc]
      exact this
    · simp at hx
      obtain ⟨i, hi, rfl⟩ := hx
      exact (hfi i hi).1

/-- What is said of a row: its error. -/
def rowE (bs : List Bk) : Int := if 8 < bs.length then 4 else if bs.all (fun b => b.err == 0) then 0 else 8
theorem rowE_many {bs : List Bk} (h : 8 < bs.length) : rowE bs = 4 := if_pos h
theorem rowE_bad {bs : List Bk} (h : bs.length ≤ 8) {i : Nat} (hi : i < bs.length) (he : (bk bs i).err ≠ 0) : rowE bs = 8 := by
  unfold rowE
  rw [if_neg (by omega), if_neg]
  intro q
  rw [List.all_eq_true] at q
  have := q _ (bk_mem hi)
  exact he (by simpa using this)
theorem rowE_ok {bs : List Bk} (h : bs.length ≤ 8) (he : ∀ i, i < bs.length → (bk bs i).err = 0) : rowE bs = 0 := by
  unfold rowE
  rw [if_neg (by omega), if_pos]
  rw [List.all_eq_true]
  intro b hb
  obtain ⟨i, hi, rfl⟩ := List.getElem_of_mem hb
  have := he i hi
  rw [bk_get hi] at this
  simpa using this
theorem rowE_zero {bs : List Bk} (h : rowE bs = 0) : bs.length ≤ 8 ∧ ∀ b ∈ bs, b.err = 0 := by
  unfold rowE at h
  split at h
  · omega
  · split at h
    · rename_i h1 h2
      rw [List.all_eq_true] at h2
      exact ⟨by omega, fun b hb => by simpa using h2 b hb⟩
    · omega
theorem rowE_three (bs : List Bk) : rowE bs = 0 ∨ rowE bs = 4 ∨ rowE bs = 8 := by
  unfold rowE
  split
  · simp
  · split <;> simp
/-- A valid row whose buckets all are at ticks. -/
structure Row (bs : List Bk) : Prop where
  len : bs.length ≤ 8
  ok : ∀ b ∈ bs, b.Ok
theorem Row.of {bs : List Bk} (h : rowE bs = 0) (ha : ∀ b ∈ bs, isU b.a) : Row bs := ⟨(rowE_zero h).1, fun b hb => Buc.of ((rowE_zero h).2 b hb) (ha b hb)⟩
theorem Row.e {bs : List Bk} (h : Row bs) : rowE bs = 0 := rowE_ok h.len fun _ hi => (h.ok _ (bk_mem hi)).ok
theorem Row.at {bs : List Bk} (h : Row bs) {i : Nat} (hi : i < bs.length) : (bk bs i).Ok := h.ok _ (bk_mem hi)
theorem Row.fil {bs : List Bk} (h : Row bs) {t : Int} (ht : isU t) : Row (bs.map (Bk.fil t)) := by
  refine ⟨by simpa using h.len, fun b hb => ?_⟩
  rw [List.mem_map] at hb
  obtain ⟨x, hx, rfl⟩ := hb
  exact (h.ok x hx).fil ht
/-- Whether a row holds a cost. -/
def holdB (c : Int) (bs : List Bk) : Bool := bs.all fun b => decide (c ≤ b.le)
theorem holdB_yes {c : Int} {bs : List Bk} (h : holdB c bs = true) : ∀ b ∈ bs, c ≤ b.le := fun b hb => by
  unfold holdB at h
  rw [List.all_eq_true] at h
  simpa using h b hb
theorem holdB_mk {c : Int} {bs : List Bk} (h : ∀ b ∈ bs, c ≤ b.le) : holdB c bs = true := by
  unfold holdB
  rw [List.all_eq_true]
  intro b hb
  simpa using h b hb
theorem holdB_no {c : Int} {bs : List Bk} {i : Nat} (hi : i < bs.length) (h : (bk bs i).le < c) : holdB c bs = false := by
  cases e : holdB c bs with
  | false => rfl
  | true => have := holdB_yes e _ (bk_mem hi); omega
theorem Row.chg {bs : List Bk} (h : Row bs) {c : Int} (h0 : 0 ≤ c) (hh : holdB c bs = true) : Row (bs.map (Bk.chg c)) := by
  refine ⟨by simpa using h.len, fun b hb => ?_⟩
  rw [List.mem_map] at hb
  obtain ⟨x, hx, rfl⟩ := hb
  exact (h.ok x hx).chg h0 (holdB_yes hh x hx)
/-- A cost taken: the row, whether it was admitted. -/
def takV (bs : List Bk) (t c : Int) : List Bk := if holdB c (bs.map (Bk.fil t)) then (bs.map (Bk.fil t)).map (Bk.chg c) else bs.map (Bk.fil t)
def takB (bs : List Bk) (t c : Int) : Bool := holdB c (bs.map (Bk.fil t))
theorem takV_len (bs : List Bk) (t c : Int) : (takV bs t c).length = bs.length := by unfold takV; split <;> simp
theorem Row.tak {bs : List Bk} (h : Row bs) {t c : Int} (ht : isU t) (h0 : 0 ≤ c) : Row (takV bs t c) := by
  unfold takV
  split
  · exact (h.fil ht).chg h0 (by assumption)
  · exact h.fil ht

end Go.Proofs.Ytegbcagcfmijcaa
