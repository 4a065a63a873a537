/-
  TopBuckets, walked over the contracts of wide numbers, clocks, buckets and rows: it returns true.
-/
import Derived.Test.YtmpcpflpcfanjaaTopB04
import Derived.Test.YtmpcpflpcfanjaaTopC04
namespace Go.Proofs.Ytmpcpflpcfanjaa
open Go.ChangeShapes Go.WideShapes Go.ChangeAt Go.RowKit Go.Joins

theorem cl_at (now : Int) (xs : List Int) {n k : Nat} (h : k < n) : nth (cl now xs n) k = gr now (xs.take (k + 1)) := by
  unfold nth cl
  rw [List.getD_eq_getElem?_getD]
  simp [h]
/-- A tick that goes back refills nothing. -/
theorem fil_back {b : Bk} (hb : b.Ok) (x : Int) : b.fil x = b.fil (mx b.a x) := by
  have hb : Buc b.bu b.ra b.pe b.le b.pt b.a := hb
  by_cases h : b.a < x
  · rw [show mx b.a x = x from if_pos h]
  · rw [show mx b.a x = b.a from if_neg h]
    obtain ⟨bu, ra, pe, le, pt, a⟩ := b
    have hb : Buc bu ra pe le pt a := hb
    have h : ¬ a < x := h
    have q0 := hb.q0
    have q1 := hb.q1
    have l1 := hb.l1
    have hn : inN ra pt a a = pt := by unfold inN; rw [Int.sub_self, Int.zero_mul]; omega
    have hd : pt / pe = 0 := Int.ediv_eq_zero_of_lt q0 q1
    have hm : pt % pe = pt := Int.emod_eq_of_lt q0 q1
    have e1 : filL bu ra pe le pt a a = le := by
      unfold filL
      rw [if_neg (by omega), hn, hd]
      split <;> omega
    have e2 : filP bu ra pe le pt a a = pt := by
      unfold filP
      rw [if_neg (by omega), hn, hd, hm]
      split
      · have := hb.top (by omega); omega
      · rfl
    have e3 : filA a a = a := if_neg (by omega)
    by_cases z : x < a
    · show (⟨bu, ra, pe, filL bu ra pe le pt a x, filP bu ra pe le pt a x, filA a x⟩ : Bk) = ⟨bu, ra, pe, filL bu ra pe le pt a a, filP bu ra pe le pt a a, filA a a⟩
      rw [e1, e2, e3, show filL bu ra pe le pt a x = le from if_pos z, show filP bu ra pe le pt a x = pt from if_pos z, show filA a x = a from if_pos z]
    · obtain rfl : x = a := by omega
      rfl
theorem fil_a {b : Bk} (x : Int) : (b.fil x).a = mx b.a x := by
  show filA b.a x = mx b.a x
  unfold filA mx
  split <;> split <;> omega
theorem tak_back {rs : List Bk} {A : Int} (hr : Row rs) (hA : ∀ b ∈ rs, b.a = A) (x c : Int) : takV rs x c = takV rs (mx A x) c ∧ takB rs x c = takB rs (mx A x) c := by
  have e : rs.map (Bk.fil x) = rs.map (Bk.fil (mx A x)) := List.map_congr_left fun b hb => by rw [fil_back (hr.ok b hb) x, hA b hb]
  unfold takV takB
  rw [e]
  exact ⟨rfl, rfl⟩
theorem tak_a {rs : List Bk} {A : Int} (hA : ∀ b ∈ rs, b.a = A) (x c : Int) : ∀ b ∈ takV rs x c, b.a = mx A x := by
  intro b hb
  unfold takV at hb
  split at hb
  · obtain ⟨y, hy, rfl⟩ := List.mem_map.1 hb
    obtain ⟨z, hz, rfl⟩ := List.mem_map.1 hy
    show (z.fil x).a = _
    rw [fil_a, hA z hz]
  · obtain ⟨z, hz, rfl⟩ := List.mem_map.1 hb
    rw [fil_a, hA z hz]
theorem gr_le (now : Int) (xs : List Int) : now ≤ gr now xs := by
  unfold gr
  induction xs generalizing now with
  | nil => exact Int.le_refl _
  | cons x xs ih =>
    have := ih (if now < x then x else now)
    rw [List.foldl_cons]
    split at this
    · rw [if_pos (by assumption)]; omega
    · rw [if_neg (by assumption)]; omega
theorem gr_tick {now : Int} {xs : List Int} (hn : isU now) (hx : ∀ k, k < xs.length → isU (nth xs k)) : ∀ k, k ≤ xs.length → isU (gr now (xs.take k)) := by
  intro k
  induction k with
  | zero => intro _; exact hn
  | succ k ih =>
    intro h
    rw [← gr_step now xs k (by omega)]
    unfold mx
    split
    · exact hx k (by omega)
    · exact ih (by omega)
theorem bk_tak2 {rs : List Bk} {t c : Int} {p : Nat} (hp : p < rs.length) : bk (takV rs t c) p = if takB rs t c then Bk.chg c (Bk.fil t (bk rs p)) else Bk.fil t (bk rs p) := by
  unfold takV takB
  split
  · rw [bk_map _ (by simpa using hp), bk_map _ hp]
  · rw [bk_map _ hp]
theorem tak_le2 {rs : List Bk} {t c : Int} {p : Nat} (hp : p < rs.length) (h : takB rs t c = true) : c ≤ (Bk.fil t (bk rs p)).le := by
  unfold takB at h
  have := holdB_yes h _ (bk_mem (show p < (rs.map (Bk.fil t)).length by simpa using hp))
  rwa [bk_map _ hp] at this
theorem run_clamped {bs : List Bk} {xs cs : List Int} {A : Int} (hr : Row bs) (hA : ∀ b ∈ bs, b.a = A) (he : Entries xs cs) : ∀ k, k ≤ xs.length →
    runR bs xs cs k = runR bs (cl A xs xs.length) cs k ∧ runA bs xs cs k = runA bs (cl A xs xs.length) cs k ∧ ∀ b ∈ runR bs xs cs k, b.a = gr A (xs.take k) := by
  intro k
  induction k with
  | zero => intro _; exact ⟨rfl, rfl, hA⟩
  | succ k ih =>
    intro h
    obtain ⟨h1, h2, h3⟩ := ih (by omega)
    have ht := tak_back (runR_row hr he k (by omega)) h3 (nth xs k) (nth cs k)
    have hg := gr_step A xs k (by omega)
    rw [hg] at ht
    have e1 : runR bs xs cs (k + 1) = takV (runR bs xs cs k) (nth xs k) (nth cs k) := rfl
    have e2 : runA bs xs cs (k + 1) = runA bs xs cs k ++ [takB (runR bs xs cs k) (nth xs k) (nth cs k)] := rfl
    have e3 : runR bs (cl A xs xs.length) cs (k + 1) = takV (runR bs (cl A xs xs.length) cs k) (nth (cl A xs xs.length) k) (nth cs k) := rfl
    have e4 : runA bs (cl A xs xs.length) cs (k + 1) = runA bs (cl A xs xs.length) cs k ++ [takB (runR bs (cl A xs xs.length) cs k) (nth (cl A xs xs.length) k) (nth cs k)] := rfl
    refine ⟨?_, ?_, ?_⟩
    · rw [e1, e3, cl_at A xs (by omega), ← h1, ht.1]
    · rw [e2, e4, cl_at A xs (by omega), ← h1, ← h2, ht.2]
    · rw [e1, ← hg]
      exact tak_a h3 _ _
theorem clamped_entries {xs cs : List Int} {A : Int} (hA : isU A) (he : Entries xs cs) : Entries (cl A xs xs.length) cs := by
  refine ⟨by rw [cl_len]; exact he.len, by rw [cl_len]; exact he.same, fun k hk => ?_, he.cost⟩
  rw [cl_len] at hk
  rw [cl_at A xs hk]
  exact gr_tick hA he.tick (k + 1) (by omega)
/-- What was charged. -/
def sumA (bs : List Bk) (ts cs : List Int) : Nat → Int
  | 0 => 0
  | k + 1 => sumA bs ts cs k + if takB (runR bs ts cs k) (nth ts k) (nth cs k) then nth cs k else 0
theorem runR_bound {bs : List Bk} {xs cs : List Int} {A : Int} (hr : Row bs) (hA : ∀ b ∈ bs, b.a = A) (he : Entries xs cs) {i : Nat} (hi : i < bs.length) (hf : (bk bs i).le = (bk bs i).bu ∧ (bk bs i).pt = 0) : ∀ k, k ≤ xs.length →
    (bk (runR bs xs cs k) i).bu = (bk bs i).bu ∧ (bk (runR bs xs cs k) i).ra = (bk bs i).ra ∧ (bk (runR bs xs cs k) i).pe = (bk bs i).pe ∧ 0 ≤ sumA bs xs cs k ∧ sumA bs xs cs k ≤ k * 1000000000 ∧
    sumA bs xs cs k * (bk bs i).pe + vol (bk bs i).pe (bk (runR bs xs cs k) i).le (bk (runR bs xs cs k) i).pt ≤ (bk bs i).bu * (bk bs i).pe + (gr A (xs.take k) - A) * (bk bs i).ra := by
  intro k
  induction k with
  | zero =>
    intro _
    refine ⟨rfl, rfl, rfl, by unfold sumA; omega, by unfold sumA; omega, ?_⟩
    show (0 : Int) * _ + vol _ (bk bs i).le (bk bs i).pt ≤ _ + (gr A (xs.take 0) - A) * _
    rw [hf.1, hf.2]
    have : gr A (xs.take 0) = A := rfl
    rw [this, Int.sub_self, Int.zero_mul, Int.zero_mul]
    unfold vol
    omega
  | succ k ih =>
    intro h
    obtain ⟨h1, h2, h3, h4, h5, h6⟩ := ih (by omega)
    have hrow := runR_row hr he k (by omega)
    have hrl : i < (runR bs xs cs k).length := by rw [runR_len]; exact hi
    have hok := hrow.at hrl
    have ha := (run_clamped hr hA he k (by omega)).2.2 _ (bk_mem hrl)
    have hc0 := he.cost k (by have := he.same; omega)
    obtain ⟨b, eb⟩ : ∃ b, bk (runR bs xs cs k) i = b := ⟨_, rfl⟩
    rw [eb] at h1 h2 h3 h6 hok ha
    obtain ⟨co, ec⟩ : ∃ c, nth cs k = c := ⟨_, rfl⟩
    rw [ec] at hc0
    have hg := gr_step A xs k (by omega)
    have hgk : isU (gr A (xs.take (k + 1))) := by
      have h0 : isU A := by have := (hr.at hi).tick; rwa [hA _ (bk_mem hi)] at this
      exact gr_tick h0 he.tick (k + 1) (by omega)
    have hfb := fil_back hok (nth xs k)
    rw [ha, hg] at hfb
    have hle : b.a ≤ gr A (xs.take (k + 1)) := by rw [ha, ← hg]; unfold mx; split <;> omega
    have hv := Buc.vol_filled hok hle
    obtain ⟨G, eG⟩ : ∃ y, gr A (xs.take (k + 1)) = y := ⟨_, rfl⟩
    rw [eG] at hgk hfb hle hv ⊢
    have hfil : Buc b.bu b.ra b.pe (filL b.bu b.ra b.pe b.le b.pt b.a G) (filP b.bu b.ra b.pe b.le b.pt b.a G) (filA b.a G) := Buc.filled hok hgk
    have e9 : (G - A) * b.ra = (b.a - A) * b.ra + (G - b.a) * b.ra := by rw [← Int.add_mul]; congr 1; omega
    have hmin := Int.min_le_left (vol b.pe b.le b.pt + (G - b.a) * b.ra) (b.bu * b.pe)
    rw [← ha] at h6
    have key : sumA bs xs cs k * b.pe + vol b.pe (filL b.bu b.ra b.pe b.le b.pt b.a G) (filP b.bu b.ra b.pe b.le b.pt b.a G) ≤ b.bu * b.pe + (G - A) * b.ra := by
      rw [← h1, ← h2, ← h3] at h6
      omega
    have hkk := bk_tak2 (rs := runR bs xs cs k) (t := nth xs k) (c := co) hrl
    rw [eb, hfb] at hkk
    have er : runR bs xs cs (k + 1) = takV (runR bs xs cs k) (nth xs k) co := by rw [← ec]; rfl
    have es : sumA bs xs cs (k + 1) = sumA bs xs cs k + if takB (runR bs xs cs k) (nth xs k) co then co else 0 := by rw [← ec]; rfl
    rw [er, es, hkk]
    have hcl : takB (runR bs xs cs k) (nth xs k) co = true → co ≤ filL b.bu b.ra b.pe b.le b.pt b.a G := fun hq => by
      have := tak_le2 hrl hq
      rw [eb, hfb] at this
      exact this
    have hlm : filL b.bu b.ra b.pe b.le b.pt b.a G ≤ 1000000000 := by have := hfil.l1; have := hfil.nums; omega
    rw [← h1, ← h2, ← h3]
    split
    · rename_i hq
      have hcl := hcl hq
      refine ⟨rfl, rfl, rfl, by omega, by omega, ?_⟩
      show (sumA bs xs cs k + co) * b.pe + vol b.pe (filL b.bu b.ra b.pe b.le b.pt b.a G - co) (filP b.bu b.ra b.pe b.le b.pt b.a G) ≤ _
      rw [vol_charged, Int.add_mul]
      omega
    · refine ⟨rfl, rfl, rfl, by omega, by omega, ?_⟩
      show (sumA bs xs cs k + 0) * b.pe + vol b.pe (filL b.bu b.ra b.pe b.le b.pt b.a G) (filP b.bu b.ra b.pe b.le b.pt b.a G) ≤ _
      rw [Int.add_zero]
      exact key

/-- A limit's numbers; a list of limits, as a slice value reads. -/
structure Lm where
  bu : Int
  ra : Int
  pe : Int
def lm (ls : List Lm) (i : Nat) : Lm := ls.getD i ⟨0, 0, 0⟩
theorem lm_get {ls : List Lm} {i : Nat} (h : i < ls.length) : lm ls i = ls[i] := by
  unfold lm
  rw [List.getD_eq_getElem?_getD, List.getElem?_eq_getElem h, Option.getD_some]
structure Lms (w : World) (at0 : Option Addr) (cap : Nat) (ls : List Lm) : Prop where
  room : ls.length ≤ cap
  most : cap ≤ 9223372036854775807
  cells : 0 < ls.length → ∃ b off, at0 = some ⟨b, off, none⟩ ∧ ∀ i, i < ls.length → w.cell? ⟨b, off + i * 3, none⟩ = some (.int .i64 (lm ls i).bu) ∧ w.cell? ⟨b, off + i * 3 + 1, none⟩ = some (.int .i64 (lm ls i).ra) ∧ w.cell? ⟨b, off + i * 3 + 2, none⟩ = some (.int .i64 (lm ls i).pe)
theorem Lms.at {w : World} {at0 : Option Addr} {cap : Nat} {ls : List Lm} (h : Lms w at0 cap ls) {i : Nat} (hi : i < ls.length) {bu ra pe : Int} (e : lm ls i = ⟨bu, ra, pe⟩) :
    ∃ b off, at0 = some ⟨b, off, none⟩ ∧ w.cell? ⟨b, off + i * 3, none⟩ = some (.int .i64 bu) ∧ w.cell? ⟨b, off + i * 3 + 1, none⟩ = some (.int .i64 ra) ∧ w.cell? ⟨b, off + i * 3 + 2, none⟩ = some (.int .i64 pe) := by
  obtain ⟨b, off, e1, hc⟩ := h.cells (by omega)
  have := hc i hi
  rw [e] at this
  exact ⟨b, off, e1, this⟩
theorem Lms.below {w w' : World} {at0 : Option Addr} {cap : Nat} {ls : List Lm} (h : Lms w at0 cap ls) (hb : Below w.heap.size w w') : Lms w' at0 cap ls :=
  ⟨h.room, h.most, fun h0 => let ⟨b, off, e, hc⟩ := h.cells h0; ⟨b, off, e, fun i hi => let ⟨x, y, z⟩ := hc i hi; ⟨cell_below hb x, cell_below hb y, cell_below hb z⟩⟩⟩
set_option maxRecDepth 100000 in
theorem open_limits {H : Type} {enc : TypeId × Value → H} {W : World} {r : Reach} {b0 : Nat} {v : Value} {d : DataW H} {p : List MemPlace}
    (hv : Value.okWide Try.prog W r b0 71 v) (h : DataW.Trod enc Try.prog W 0 (fun _ => true) true 71 v d p) :
    ∃ (at0 : Option Addr) (cap : Nat) (ls : List Lm), v = .slice at0 ls.length cap ∧ Lms W at0 cap ls := by
  obtain ⟨a, len, cap, rfl⟩ := okWide_slice Try.underlying71 hv
  obtain ⟨fuel, hf⟩ := h
  have h6 : Try.prog.cellsOf 23 = 3 := by kernel_rfl
  rcases Go.Deep.open_slice Try.underlying71 (cs := [.slice a len cap]) hf with ⟨hcs, _⟩ | ⟨ad, len', cap', m, n, D, Pl, hcs, hb, hl, hm, hmm, hx, hi⟩
  · simp at hcs
    obtain ⟨rfl, rfl, rfl⟩ := hcs
    exact ⟨none, 0, [], rfl, Nat.le_refl _, by omega, fun h => absurd h (by simp)⟩
  · simp at hcs
    obtain ⟨rfl, rfl, rfl⟩ := hcs
    simp only [if_true] at hmm
    subst hmm
    have each : ∀ i, i < len → ∃ l : Lm, W.cell? (ad.add (i * 3)) = some (.int .i64 l.bu) ∧ W.cell? (ad.add (i * 3 + 1)) = some (.int .i64 l.ra) ∧ W.cell? (ad.add (i * 3 + 2)) = some (.int .i64 l.pe) := by
      intro i hil
      obtain ⟨cs', hcs', ht⟩ := hi i (by omega)
      rw [h6] at hcs'
      obtain ⟨_, hlen, hat⟩ := World.cells?_some hcs'
      obtain ⟨c0, c1, c2, rfl⟩ : ∃ c0 c1 c2, cs' = [c0, c1, c2] := by
        match cs', hlen with
        | [c0, c1, c2], _ => exact ⟨c0, c1, c2, rfl⟩
      obtain ⟨x0, x1, x2, rfl, rfl, rfl, _⟩ := open_limit_cells ht
      refine ⟨⟨x0, x1, x2⟩, ?_, ?_, ?_⟩
      · have := hat 0 (by omega); rw [Go.Deep.add_add] at this; exact this
      · have := hat 1 (by omega); rw [Go.Deep.add_add] at this; exact this
      · have := hat 2 (by omega); rw [Go.Deep.add_add] at this; exact this
    rcases Nat.eq_zero_or_pos len with q | q
    · subst q
      exact ⟨some ad, _, [], rfl, by simp, by unfold maxLen at hm; omega, fun q => absurd q (by simp)⟩
    obtain ⟨b, off, spot⟩ := ad
    have hspot : spot = none := by
      obtain ⟨b0, hb0, _⟩ := each 0 q
      simpa [Addr.add] using World.cell?_spot hb0
    subst hspot
    have hex : ∃ f : Nat → Lm, ∀ i, i < len → W.cell? (Addr.add ⟨b, off, none⟩ (i * 3)) = some (.int .i64 (f i).bu) ∧ W.cell? (Addr.add ⟨b, off, none⟩ (i * 3 + 1)) = some (.int .i64 (f i).ra) ∧ W.cell? (Addr.add ⟨b, off, none⟩ (i * 3 + 2)) = some (.int .i64 (f i).pe) :=
      ⟨fun i => if h : i < len then Classical.choose (each i h) else ⟨0, 0, 0⟩, fun i h => by dsimp only; rw [dif_pos h]; exact Classical.choose_spec (each i h)⟩
    obtain ⟨f, hfi⟩ := hex
    have hlen : ((List.range len).map f).length = len := by simp
    have hlm : ∀ i, i < len → lm ((List.range len).map f) i = f i := fun i h => by rw [lm_get (by omega)]; simp
    refine ⟨some ⟨b, off, none⟩, _, (List.range len).map f, by rw [hlen], by omega, by unfold maxLen at hm; omega, fun _ => ⟨b, off, rfl, fun i hi => ?_⟩⟩
    rw [hlen] at hi
    rw [hlm i hi]
    have := hfi i hi
    rw [Go.WideShapes.add_plain, Go.WideShapes.add_plain, Go.WideShapes.add_plain] at this
    rw [Nat.add_assoc, Nat.add_assoc]
    exact this
/-- Full buckets. -/
def fullB (A : Int) (l : Lm) : Bk := ⟨l.bu, l.ra, l.pe, l.bu, 0, A⟩

end Go.Proofs.Ytmpcpflpcfanjaa
