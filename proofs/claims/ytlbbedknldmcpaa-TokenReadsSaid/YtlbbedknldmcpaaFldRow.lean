/-
  Fields in cells; rows of fields and their bytes; rows read: what is said of them.
-/
import Derived.Test.YtlbbedknldmcpaaFldMath
import Derived.Test.YtlbbedknldmcpaaRws
namespace Go.Proofs.Ytlbbedknldmcpaa
open Go.ChangeShapes Go.WideShapes Go.ChangeAt Go.RowKit Go.Joins

/-- A field's cells. -/
def Fd.v (f : Fd) : List Value := .int .u8 f.k :: .int .u64 f.n :: f.d.map (Value.int .u8)
def LF : Lay Fd where
  f := Fd.v
  s := 34
  pos := by decide
  len := fun x => by simp [Fd.v, x.hl]
  one := fun x u hu => by
    simp [Fd.v] at hu
    rcases hu with rfl | rfl | ⟨y, _, rfl⟩ <;> rfl
theorem Fd.v_len (f : Fd) : f.v.length = 34 := LF.len f
theorem Fd.v_inj {f g : Fd} (h : f.v = g.v) : f = g := by
  unfold Fd.v at h
  simp only [List.cons.injEq, Value.int.injEq, true_and] at h
  refine Fd.ext' h.1 h.2.1 ?_
  have := h.2.2
  have hi : ∀ {xs ys : List Int}, xs.map (Value.int .u8) = ys.map (Value.int .u8) → xs = ys := by
    intro xs
    induction xs with
    | nil => intro ys h; cases ys with
      | nil => rfl
      | cons => cases h
    | cons x xs ih => intro ys h; cases ys with
      | nil => cases h
      | cons y ys => simp at h; rw [h.1, ih (by simpa using h.2)]
  exact hi this

theorem cellsU8 : Try.prog.cellsOf 5 = 1 := by kernel_rfl
theorem cellsU64 : Try.prog.cellsOf 23 = 1 := by kernel_rfl
theorem cellsDig : Try.prog.cellsOf 25 = 32 := by kernel_rfl
theorem cellsFld : Try.prog.cellsOf 44 = 34 := by kernel_rfl
theorem sizeFld : (Try.prog.info? 44).map (·.size) = some 34 := by kernel_rfl
theorem sizeDig : (Try.prog.info? 25).map (·.size) = some 32 := by kernel_rfl
/-- A digest that came in. -/
theorem open_dig {H : Type} {enc : TypeId × Value → H} {W : World} {fuel : Nat} {cs : List Value} {x : DataW H × List MemPlace}
    (h : DataW.trod enc Try.prog W 0 (fun _ => true) true fuel 25 cs = some x) : ∃ d : List Int, d.length = 32 ∧ Byts d ∧ cs = d.map (Value.int .u8) := by
  obtain ⟨xs, m, _, _, hl, hxs, hi⟩ := DataW.trod_array Try.underlying25 h
  rw [cellsDig] at hl
  have each : ∀ i, i < 32 → ∃ n : Int, cs[i]? = some (.int .u8 n) ∧ 0 ≤ n ∧ n ≤ 255 := by
    intro i hi'
    have h1 := hi i hi'
    rw [cellsU8, Nat.mul_one, List.getElem?_eq_getElem (by omega)] at h1
    obtain ⟨n, hn, _, hw⟩ := DataW.trod_int Try.underlying5 h1
    have e : cs[i]? = some (.int .u8 n) := by
      have := congrArg List.head? hn
      rw [List.head?_take, if_neg (by omega), List.head?_drop] at this
      exact this
    exact ⟨n, e, bounds_u8 hw⟩
  have hex : ∃ f : Nat → Int, ∀ i, i < 32 → cs[i]? = some (.int .u8 (f i)) ∧ 0 ≤ f i ∧ f i ≤ 255 :=
    ⟨fun i => if h : i < 32 then Classical.choose (each i h) else 0, fun i h => by dsimp only; rw [dif_pos h]; exact Classical.choose_spec (each i h)⟩
  obtain ⟨f, hf⟩ := hex
  refine ⟨(List.range 32).map f, by simp, fun y hy => ?_, ?_⟩
  · obtain ⟨i, hi, rfl⟩ := List.mem_map.1 hy
    exact (hf i (List.mem_range.1 hi)).2
  · refine List.ext_getElem? fun i => ?_
    rcases Nat.lt_or_ge i 32 with q | q
    · rw [(hf i q).1, List.getElem?_map, List.getElem?_map, List.getElem?_range q]
      rfl
    · rw [List.getElem?_eq_none (by omega), List.getElem?_eq_none (by simpa using q)]
/-- A field that came in. -/
theorem open_fld {H : Type} {enc : TypeId × Value → H} {W : World} (fuel : Nat) (cs : List Value) (x : DataW H × List MemPlace)
    (h : DataW.trod enc Try.prog W 0 (fun _ => true) true fuel 44 cs = some x) : ∃ f : Fd, cs = LF.f f := by
  obtain ⟨y0, y1, y2, n, _, hl, h0, h1, h2⟩ := Go.Deep.trod_struct3 Try.underlying44 h
  rw [cellsFld] at hl
  obtain ⟨a, ea, _, wa⟩ := DataW.trod_int Try.underlying5 h0
  obtain ⟨b, eb, _, wb⟩ := DataW.trod_int Try.underlying23 h1
  obtain ⟨d, hd, hb, ed⟩ := open_dig h2
  simp only [cellsU8, cellsU64, cellsDig] at ea eb ed
  refine ⟨⟨a, b, d, bounds_u8 wa, bounds_u64 wb, hd, hb⟩, ?_⟩
  match cs, hl with
  | c0 :: c1 :: cs, hl =>
    simp at ea eb ed hl
    subst ea eb
    rw [List.take_of_length_le (by omega)] at ed
    rw [ed]
    rfl
/-- Fields that came in. -/
theorem open_flds {H : Type} {enc : TypeId × Value → H} {W : World} {r : Reach} {b0 : Nat} {v : Value} {d : DataW H} {p : List MemPlace}
    (hv : Value.okWide Try.prog W r b0 40 v) (h : DataW.Trod enc Try.prog W 0 (fun _ => true) true 40 v d p) : ∃ fs : List Fd, IsR LF W v fs :=
  open_rows Try.underlying40 cellsFld open_fld hv h
/-- Bytes that came in. -/
theorem open_byts {H : Type} {enc : TypeId × Value → H} {W : World} {r : Reach} {b0 : Nat} {v : Value} {d : DataW H} {p : List MemPlace}
    (hv : Value.okWide Try.prog W r b0 28 v) (h : DataW.Trod enc Try.prog W 0 (fun _ => true) true 28 v d p) : ∃ bs : List Int, IsL W .u8 v bs ∧ Byts bs := by
  obtain ⟨a, len, cap, rfl⟩ := okWide_slice Try.underlying28 hv
  obtain ⟨at0, cap', xs, e, hi, hw⟩ := open_ints_any Try.underlying28 Try.underlying5 cellsU8 hv h
  injection e with e1 e2 e3
  subst e1 e2 e3
  refine ⟨xs, ⟨a, cap, rfl, hi, fun q => ?_⟩, fun x hx => bounds_u8 (hw x hx)⟩
  subst q
  obtain ⟨fuel, hf⟩ := h
  rcases open_ints Try.underlying28 Try.underlying5 cellsU8 (cs := [.slice none xs.length cap]) hf with ⟨hcs, _⟩ | ⟨ad, len', cap2, zs, hcs, _⟩
  · simp at hcs
    exact hcs.2
  · simp at hcs

/-- What is said of a row: its error, its bytes, how many. -/
def rowE (fs : List Fd) : Int := if 40 < fs.length then 4 else if fs.all Fd.ok then 0 else 8
def rowB (fs : List Fd) : List Int := fs.flatMap Fd.bs
def rowV (fs : List Fd) : List Int := if rowE fs = 0 then rowB fs else []
theorem rowB_nil : rowB [] = [] := rfl
theorem rowB_cons (f : Fd) (fs : List Fd) : rowB (f :: fs) = f.bs ++ rowB fs := rfl
theorem rowB_app (fs gs : List Fd) : rowB (fs ++ gs) = rowB fs ++ rowB gs := by unfold rowB; simp
theorem rowB_snoc (fs : List Fd) (f : Fd) : rowB (fs ++ [f]) = rowB fs ++ f.bs := by unfold rowB; simp
theorem rowB_byts (fs : List Fd) : Byts (rowB fs) := by
  induction fs with
  | nil => exact Byts.nil
  | cons f fs ih => exact f.bs_byts.append ih
theorem rowB_le (fs : List Fd) : (rowB fs).length ≤ fs.length * 32 := by
  induction fs with
  | nil => simp [rowB]
  | cons f fs ih =>
    rw [rowB_cons, List.length_append, f.bs_len, List.length_cons]
    have := wid_le f.k
    omega
theorem rowE_many {fs : List Fd} (h : 40 < fs.length) : rowE fs = 4 := if_pos h
theorem rowE_bad {fs : List Fd} (h : fs.length ≤ 40) {f : Fd} (hi : f ∈ fs) (he : f.ok = false) : rowE fs = 8 := by
  unfold rowE
  rw [if_neg (by omega), if_neg]
  intro q
  rw [List.all_eq_true] at q
  rw [q f hi] at he
  cases he
theorem rowE_ok {fs : List Fd} (h : fs.length ≤ 40) (he : ∀ f ∈ fs, f.ok = true) : rowE fs = 0 := by
  unfold rowE
  rw [if_neg (by omega), if_pos (List.all_eq_true.2 he)]
theorem rowE_zero {fs : List Fd} (h : rowE fs = 0) : fs.length ≤ 40 ∧ ∀ f ∈ fs, f.ok = true := by
  unfold rowE at h
  split at h
  · omega
  · split at h
    · rename_i h1 h2
      exact ⟨by omega, List.all_eq_true.1 h2⟩
    · omega
theorem rowE_cases (fs : List Fd) : rowE fs = 0 ∨ rowE fs = 4 ∨ rowE fs = 8 := by
  unfold rowE
  (repeat' split) <;> simp

/-- What is said of kinds. -/
def kinE (ks : List Int) : Int := if 40 < ks.length then 4 else if ks.all (fun k => wid k != 0) then 0 else 2
theorem kinE_many {ks : List Int} (h : 40 < ks.length) : kinE ks = 4 := if_pos h
theorem kinE_bad {ks : List Int} (h : ks.length ≤ 40) {k : Int} (hi : k ∈ ks) (he : wid k = 0) : kinE ks = 2 := by
  unfold kinE
  rw [if_neg (by omega), if_neg]
  intro q
  rw [List.all_eq_true] at q
  have := q k hi
  rw [he] at this
  simp at this
theorem kinE_ok {ks : List Int} (h : ks.length ≤ 40) (he : ∀ k ∈ ks, wid k ≠ 0) : kinE ks = 0 := by
  unfold kinE
  rw [if_neg (by omega), if_pos]
  rw [List.all_eq_true]
  intro k hk
  simpa using he k hk
theorem kinE_zero {ks : List Int} (h : kinE ks = 0) : ks.length ≤ 40 ∧ ∀ k ∈ ks, wid k ≠ 0 := by
  unfold kinE at h
  split at h
  · omega
  · split at h
    · rename_i h1 h2
      rw [List.all_eq_true] at h2
      exact ⟨by omega, fun k hk => by simpa using h2 k hk⟩
    · omega
theorem kinE_cases (ks : List Int) : kinE ks = 0 ∨ kinE ks = 4 ∨ kinE ks = 2 := by
  unfold kinE
  (repeat' split) <;> simp

/-- The row of some kinds with whose bytes some bytes begin, and those behind it. -/
structure Rd (ks bs : List Int) (fs : List Fd) (rest : List Int) : Prop where
  k : fs.map Fd.k = ks
  ok : ∀ f ∈ fs, f.ok = true
  b : rowB fs ++ rest = bs
noncomputable def rd : List Int → List Int → Option (List Fd × List Int)
  | [], bs => some ([], bs)
  | k :: ks, bs => if bs.length < wid k then none else if (fld k (bs.take (wid k))).ok then (rd ks (bs.drop (wid k))).map (fun p => (fld k (bs.take (wid k)) :: p.1, p.2)) else none
theorem rd_mid : ∀ (fs : List Fd) (ks : List Int) (rest : List Int), (∀ f ∈ fs, f.ok = true) → rd (fs.map Fd.k ++ ks) (rowB fs ++ rest) = (rd ks rest).map (fun p => (fs ++ p.1, p.2))
  | [], ks, rest, _ => by simp [rowB]
  | f :: fs, ks, rest, h => by
    have hl := f.bs_len
    have h1 : ((f.bs ++ (rowB fs ++ rest)).take (wid f.k)) = f.bs := by rw [← hl, List.take_left']; rfl
    have h2 : ((f.bs ++ (rowB fs ++ rest)).drop (wid f.k)) = rowB fs ++ rest := by rw [← hl, List.drop_left']; rfl
    have hf := h f (by simp)
    rw [rowB_cons, List.append_assoc, List.map_cons, List.cons_append, rd, if_neg (by rw [List.length_append, hl]; omega), h1, h2, Fd.back hf, if_pos hf, rd_mid fs ks rest (fun g hg => h g (by simp [hg])), Option.map_map]
    rfl
theorem Rd.rd {ks bs : List Int} {fs : List Fd} {rest : List Int} (h : Rd ks bs fs rest) : rd ks bs = some (fs, rest) := by
  have := rd_mid fs [] rest h.ok
  rw [List.append_nil, h.k, h.b] at this
  rw [this]
  simp [Go.Proofs.Ytlbbedknldmcpaa.rd]
theorem rd_none {ks ks' bs : List Int} {k : Int} {fs : List Fd} {rest : List Int} (h : Rd ks bs fs rest) (hn : rest.length < wid k ∨ (fld k (rest.take (wid k))).ok = false) : rd (ks ++ k :: ks') bs = none := by
  rw [← h.k, ← h.b, rd_mid fs _ rest h.ok, Go.Proofs.Ytlbbedknldmcpaa.rd]
  rcases hn with q | q
  · rw [if_pos q]; rfl
  · split
    · rfl
    · rw [q]; rfl
theorem Rd.nil (bs : List Int) : Rd [] bs [] bs := ⟨rfl, fun f h => (by cases h), rfl⟩
theorem Rd.snoc {ks bs : List Int} {k : Int} {fs : List Fd} {rest : List Int} (h : Rd ks bs fs rest) (hb : Byts bs) (hk : 0 ≤ k ∧ k ≤ 255) (hl : wid k ≤ rest.length) (ho : (fld k (rest.take (wid k))).ok = true) :
    Rd (ks ++ [k]) bs (fs ++ [fld k (rest.take (wid k))]) (rest.drop (wid k)) := by
  have hbr : Byts rest := Byts.right (by rw [h.b]; exact hb)
  have hlen : (rest.take (wid k)).length = wid k := by rw [List.length_take]; omega
  refine ⟨?_, fun f hf => ?_, ?_⟩
  · rw [List.map_append, h.k, List.map_cons, (fld_ok hk hlen (hbr.take _)).1]
    rfl
  · rcases List.mem_append.1 hf with q | q
    · exact h.ok f q
    · simp at q
      subst q
      exact ho
  · rw [rowB_snoc, fld_bs hk hlen (hbr.take _), List.append_assoc, List.take_append_drop, h.b]
theorem rd_some : ∀ {ks bs : List Int} {fs : List Fd} {rest : List Int}, (∀ k ∈ ks, 0 ≤ k ∧ k ≤ 255) → Byts bs → rd ks bs = some (fs, rest) → Rd ks bs fs rest
  | [], bs, fs, rest, _, _, h => by
    unfold Go.Proofs.Ytlbbedknldmcpaa.rd at h
    simp at h
    obtain ⟨rfl, rfl⟩ := h
    exact Rd.nil _
  | k :: ks, bs, fs, rest, hk, hb, h => by
    unfold Go.Proofs.Ytlbbedknldmcpaa.rd at h
    split at h
    · cases h
    · rename_i hl
      split at h
      · rename_i ho
        rw [Option.map_eq_some_iff] at h
        obtain ⟨⟨fs', r'⟩, h1, h2⟩ := h
        simp at h2
        obtain ⟨rfl, rfl⟩ := h2
        have ih := rd_some (fun x hx => hk x (by simp [hx])) (hb.drop _) h1
        have hlen : (bs.take (wid k)).length = wid k := by rw [List.length_take]; omega
        refine ⟨?_, fun f hf => ?_, ?_⟩
        · rw [List.map_cons, ih.k, (fld_ok (hk k (by simp)) hlen (hb.take _)).1]
        · rcases List.mem_cons.1 hf with q | q
          · rw [q]; exact ho
          · exact ih.ok f q
        · rw [rowB_cons, fld_bs (hk k (by simp)) hlen (hb.take _), List.append_assoc, ih.b, List.take_append_drop]
      · cases h
/-- What First and Read answer. -/
noncomputable def firE (ks bs : List Int) : Int := if kinE ks = 0 then (match rd ks bs with | some _ => 0 | none => 12) else kinE ks
noncomputable def firF (ks bs : List Int) : List Fd := if kinE ks = 0 then (match rd ks bs with | some p => p.1 | none => []) else []
noncomputable def firR (ks bs : List Int) : List Int := if kinE ks = 0 then (match rd ks bs with | some p => p.2 | none => []) else []
noncomputable def reaE (ks bs : List Int) : Int := if firE ks bs = 0 then (if firR ks bs = [] then 0 else 12) else firE ks bs
noncomputable def reaF (ks bs : List Int) : List Fd := if reaE ks bs = 0 then firF ks bs else []
theorem fir_bad {ks bs : List Int} {n : Int} (h : kinE ks = n) (hn : n ≠ 0) : firE ks bs = n ∧ firF ks bs = [] ∧ firR ks bs = [] := by
  unfold firE firF firR
  subst h
  rw [if_neg hn, if_neg hn, if_neg hn]
  exact ⟨rfl, rfl, rfl⟩
theorem fir_none {ks bs : List Int} (h : kinE ks = 0) (hr : rd ks bs = none) : firE ks bs = 12 ∧ firF ks bs = [] ∧ firR ks bs = [] := by
  unfold firE firF firR
  rw [if_pos h, if_pos h, if_pos h, hr]
  exact ⟨rfl, rfl, rfl⟩
theorem fir_some {ks bs : List Int} {fs : List Fd} {rest : List Int} (h : kinE ks = 0) (hr : Rd ks bs fs rest) : firE ks bs = 0 ∧ firF ks bs = fs ∧ firR ks bs = rest := by
  unfold firE firF firR
  rw [if_pos h, if_pos h, if_pos h, hr.rd]
  exact ⟨rfl, rfl, rfl⟩
theorem firF_len {ks bs : List Int} (hk : ∀ k ∈ ks, 0 ≤ k ∧ k ≤ 255) (hb : Byts bs) : (firF ks bs).length ≤ 40 ∧ (firR ks bs).length ≤ bs.length := by
  rcases kinE_cases ks with h | h | h
  · cases hr : rd ks bs with
    | none => obtain ⟨_, e1, e2⟩ := fir_none h hr; rw [e1, e2]; simp
    | some p =>
      have h1 := rd_some hk hb (fs := p.1) (rest := p.2) hr
      obtain ⟨_, e1, e2⟩ := fir_some h h1
      have e3 := congrArg List.length h1.k
      have e4 := congrArg List.length h1.b
      rw [List.length_map] at e3
      rw [List.length_append] at e4
      have := (kinE_zero h).1
      rw [e1, e2]
      omega
  · obtain ⟨_, e1, e2⟩ := fir_bad (bs := bs) h (by decide); rw [e1, e2]; simp
  · obtain ⟨_, e1, e2⟩ := fir_bad (bs := bs) h (by decide); rw [e1, e2]; simp

end Go.Proofs.Ytlbbedknldmcpaa
