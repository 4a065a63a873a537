/-
  Lists of truth values compared and appended; costs; parts of lists.
-/
import Derived.Test.YtegbcagcfmijcaaRun04
import Derived.Test.YtegbcagcfmijcaaRef04
namespace Go.Proofs.Ytegbcagcfmijcaa
open Go.RowKit

theorem wp_append_vals {P : Program} {w : World} {o : Oper} {a : Act} {K : Act → World → Prop} {Q : Exit → Act → World → Prop} (s x : Operand) (t : TypeId)
    (ho : o.op = .call { callee := .builtin .append, args := #[s, x], argTypes := #[t, t] })
    (base : Nat) (e : TypeId) (i : TypeInfo) (z : Value) (bytes : Nat) (ht : P.underlying t = some (.slice e)) (hi : P.info? e = some i) (hz : i.zero = some z)
    (hsize : i.size = 1) (hby : i.bytes = bytes) (hzs : z.cells.size = 1)
    (v : Value) (n : Nat) (l : List Value) (hs : a.eval s = v) (hown : w.ownsRow base e 1 v n l)
    (v2 : Value) (xs : List Value) (hx : a.eval x = v2) (hin : IsV w v2 xs) (h1 : ∀ u ∈ xs, u.oneCell' = true)
    (h63 : n + xs.length ≤ maxLen) (hbytes : (n + xs.length) * bytes ≤ 140737488355328) (hbase : base ≤ w.heap.size)
    (h : ∀ v' w', w'.ownsRow base e 1 v' (n + xs.length) (l ++ xs) → w.grownBy w' v.ownBlock → K (a.put o.dst v') w') : o.wp P a w K Q := by
  obtain ⟨at0, cap, rfl, hin⟩ := hin
  cases at0 with
  | none =>
    have hc := hin.nil rfl
    subst hc
    have hl : xs = [] := List.eq_nil_of_length_eq_zero (by have := hin.room; omega)
    subst hl
    have hrun := run_append_owned_none (P := P) (w := w) base t o.type e i 1 ht hi v n l hown
    have hk := h v w (by simpa using hown) (World.grownBy.refl w _)
    unfold Oper.wp
    simp [execOp, ho, resolve, invoke, builtin, hs, hx, hrun, Result.andThen]
    exact hk
  | some ad =>
    refine wp_append_own w s x t ho base e i z 1 bytes ht hi hz hsize hby hzs (by omega) v n l hs hown ad xs.length cap xs hx (by simp) (fun j u hu => ?_) h1 h63 hbytes hbase (fun v' w' h1 h2 _ => h v' w' h1 h2)
    have hj : 0 < xs.length := by
      rcases Nat.eq_zero_or_pos xs.length with q | q
      · rw [List.eq_nil_of_length_eq_zero q] at hu
        cases hu
      · exact q
    obtain ⟨b, off, e1, hc⟩ := hin.cells hj
    cases e1
    rw [Go.WideShapes.add_plain]
    exact hc _ _ hu
theorem wpList_append_vals {P : Program} {w : World} {ops : Array Oper} {rest : List Oper} {o : Oper} {a : Act} {Q : Exit → Act → World → Prop} (hw : Region.wanted o (yielded ops a.tmps) = true) (s x : Operand) (t : TypeId)
    (ho : o.op = .call { callee := .builtin .append, args := #[s, x], argTypes := #[t, t] })
    (base : Nat) (e : TypeId) (i : TypeInfo) (z : Value) (bytes : Nat) (ht : P.underlying t = some (.slice e)) (hi : P.info? e = some i) (hz : i.zero = some z)
    (hsize : i.size = 1) (hby : i.bytes = bytes) (hzs : z.cells.size = 1)
    (v : Value) (n : Nat) (l : List Value) (hs : a.eval s = v) (hown : w.ownsRow base e 1 v n l)
    (v2 : Value) (xs : List Value) (hx : a.eval x = v2) (hin : IsV w v2 xs) (h1 : ∀ u ∈ xs, u.oneCell' = true)
    (h63 : n + xs.length ≤ maxLen) (hbytes : (n + xs.length) * bytes ≤ 140737488355328) (hbase : base ≤ w.heap.size)
    (h : ∀ v' w', w'.ownsRow base e 1 v' (n + xs.length) (l ++ xs) → w.grownBy w' v.ownBlock → wpList P ops Q rest (a.put o.dst v') w') : wpList P ops Q (o :: rest) a w :=
  BigFrame.wpList_want hw fun _ hK => wp_append_vals s x t ho base e i z bytes ht hi hz hsize hby hzs v n l hs hown v2 xs hx hin h1 h63 hbytes hbase fun v' w' h1 h2 => hK _ _ (h v' w' h1 h2)
theorem own_emptyV {w : World} {B e : Nat} (hB : B ≤ w.heap.size) : (w.alloc (.cells #[] e)).ownsRow B e 1 (.slice (some ⟨w.heap.size, 0, none⟩) 0 0) 0 [] :=
  World.ownsRow_lit w #[] 0 hB (by unfold maxLen; omega) rfl
theorem bools_one {bs : List Bool} {u : Value} (h : u ∈ bools bs) : u.oneCell' = true := by
  unfold bools at h
  rw [List.mem_map] at h
  obtain ⟨b, _, rfl⟩ := h
  rfl
/-- The truth value at an index; kept closed. -/
def bat (bs : List Bool) (i : Nat) : Bool := bs.getD i false
theorem bools_at {bs : List Bool} {i : Nat} (h : i < bs.length) : (bools bs)[i]? = some (.bool (bat bs i)) := by
  unfold bools bat
  rw [List.getElem?_map, List.getElem?_eq_getElem h, List.getD_eq_getElem?_getD, List.getElem?_eq_getElem h]
  rfl
/-- A slice of truth values, its value written out. -/
theorem IsV.openB {w : World} {v : Value} {bs : List Bool} {n : Nat} (h : IsV w v (bools bs)) (hl : bs.length = n) : ∃ at0 cap, v = .slice at0 n cap ∧ n ≤ cap ∧ cap ≤ 9223372036854775807 ∧ Hid (Vals w at0 cap (bools bs)) := by
  obtain ⟨at0, cap, rfl, hb⟩ := h
  have e : (bools bs).length = n := by rw [bools_len, hl]
  have h1 := hb.room
  rw [e] at h1 ⊢
  exact ⟨at0, cap, rfl, h1, hb.most, Lib.hid hb⟩
theorem Vals.atB {w : World} {at0 : Option Addr} {cap : Nat} {bs : List Bool} (h : Vals w at0 cap (bools bs)) {i : Nat} (hi : i < bs.length) : ∃ b off, at0 = some ⟨b, off, none⟩ ∧ w.cell? ⟨b, off + i, none⟩ = some (.bool (bat bs i)) := by
  obtain ⟨b, off, e, hc⟩ := h.cells (by rw [bools_len]; omega)
  exact ⟨b, off, e, hc i _ (bools_at hi)⟩
theorem Ints.cut {w : World} {k : IntKind} {a : Option Addr} {c : Nat} {xs : List Int} (h : Ints w k a c xs) (m : Nat) (hm : m ≤ xs.length) :
    Ints w k (if c = m then a else a.map (·.add m)) (c - m) (xs.drop m) := by
  have hr := h.room
  have hx := h.most
  refine ⟨by rw [List.length_drop]; omega, by omega, fun hp => ?_⟩
  rw [List.length_drop] at hp
  obtain ⟨b, off, rfl, hc⟩ := h.cells (by omega)
  rw [if_neg (by omega)]
  refine ⟨b, off + m, by simp [Go.WideShapes.add_plain], fun i hj => ?_⟩
  rw [List.length_drop] at hj
  rw [nth_drop, show off + m + i = off + (m + i) by omega]
  exact hc (m + i) (by omega)
/-- Whether there are as many costs as ticks, none less than 0. -/
def cosB (ts cs : List Int) : Bool := cs.all (fun x => decide (0 ≤ x)) && decide (cs.length = ts.length)
theorem cosB_yes {ts cs : List Int} (h : cosB ts cs = true) : cs.length = ts.length ∧ ∀ k, k < cs.length → 0 ≤ nth cs k := by
  unfold cosB at h
  rw [Bool.and_eq_true] at h
  refine ⟨of_decide_eq_true h.2, fun k hk => ?_⟩
  have := h.1
  rw [List.all_eq_true] at this
  have := this (nth cs k) (by unfold nth; rw [List.getD_eq_getElem?_getD, List.getElem?_eq_getElem hk]; exact List.getElem_mem hk)
  exact of_decide_eq_true this
theorem cosB_no {ts cs : List Int} {i : Nat} (hi : i < cs.length) (h : nth cs i < 0) : cosB ts cs = false := by
  cases e : cosB ts cs with
  | false => rfl
  | true => have := (cosB_yes e).2 i hi; omega
theorem cosB_all {ts cs : List Int} (h : ∀ k, k < cs.length → 0 ≤ nth cs k) : cosB ts cs = decide (cs.length = ts.length) := by
  unfold cosB
  have : cs.all (fun x => decide (0 ≤ x)) = true := by
    rw [List.all_eq_true]
    intro x hx
    obtain ⟨i, hi, rfl⟩ := List.getElem_of_mem hx
    have := h i hi
    unfold nth at this
    rw [List.getD_eq_getElem?_getD, List.getElem?_eq_getElem hi] at this
    exact decide_eq_true this
  rw [this, Bool.true_and]

/-- A run, its lengths named. -/
theorem lrun_is {bs zs : List Bk} {aa : List Bool} {ts cs : List Int} {at1 at2 : Option Addr} {n c1 c2 : Nat} {v : Value} {w : World} (hr : Row bs) (he : Entries ts cs) (hn : Hid (ts.length = n)) (hz : Hid (runR bs ts cs n = zs)) (ha : Hid (runA bs ts cs n = aa)) (h1 : IsB w v bs) (hi : Ints w .u64 at1 c1 ts) (hj : Ints w .i64 at2 c2 cs) :
    Calls Try.prog 9 #[v, .slice at1 n c1, .slice at2 n c2] w (GivesRun zs aa 0 w) := by
  have hm : cs.length = n := by rw [he.same]; exact hn.out
  have hz' : Hid (runR bs ts cs ts.length = zs) := Lib.hid (by rw [hn.out]; exact hz.out)
  have ha' : Hid (runA bs ts cs ts.length = aa) := Lib.hid (by rw [hn.out]; exact ha.out)
  have := lrun_ok hr he hz' ha' h1 hi hj
  rwa [hm, hn.out] at this
set_option maxRecDepth 100000 in
theorem open_idx {H : Type} {enc : TypeId × Value → H} {W : World} {r : Reach} {b0 base : Nat} {sp : Nat → Bool} {held : Bool} {v : Value} {d : DataW H} {p : List MemPlace}
    (hv : Value.okWide Try.prog W r b0 3 v) (h : DataW.Trod enc Try.prog W base sp held 3 v d p) : ∃ x : Int, v = .int .i64 x ∧ True := by
  obtain ⟨a, rfl, _⟩ := Go.ChangeShapes.open_int Try.underlying3 hv h
  exact ⟨a, rfl, trivial⟩
theorem runR_take (bs : List Bk) (ts cs : List Int) (j : Nat) : ∀ k, k ≤ j → runR bs (ts.take j) (cs.take j) k = runR bs ts cs k ∧ runA bs (ts.take j) (cs.take j) k = runA bs ts cs k := by
  intro k
  induction k with
  | zero => intro _; exact ⟨rfl, rfl⟩
  | succ k ih =>
    intro h
    obtain ⟨h1, h2⟩ := ih (by omega)
    unfold runR runA
    rw [h1, h2, nth_take (by omega), nth_take (by omega)]
    exact ⟨rfl, rfl⟩
theorem runR_drop (bs : List Bk) (ts cs : List Int) (j : Nat) : ∀ k, runR (runR bs ts cs j) (ts.drop j) (cs.drop j) k = runR bs ts cs (j + k) ∧ runA bs ts cs j ++ runA (runR bs ts cs j) (ts.drop j) (cs.drop j) k = runA bs ts cs (j + k) := by
  intro k
  induction k with
  | zero => exact ⟨rfl, by unfold runA; simp⟩
  | succ k ih =>
    obtain ⟨h1, h2⟩ := ih
    have e1 : runR bs ts cs (j + (k + 1)) = takV (runR bs ts cs (j + k)) (nth ts (j + k)) (nth cs (j + k)) := rfl
    have e2 : runA bs ts cs (j + (k + 1)) = runA bs ts cs (j + k) ++ [takB (runR bs ts cs (j + k)) (nth ts (j + k)) (nth cs (j + k))] := rfl
    have e3 : runR (runR bs ts cs j) (ts.drop j) (cs.drop j) (k + 1) = takV (runR (runR bs ts cs j) (ts.drop j) (cs.drop j) k) (nth (ts.drop j) k) (nth (cs.drop j) k) := rfl
    have e4 : runA (runR bs ts cs j) (ts.drop j) (cs.drop j) (k + 1) = runA (runR bs ts cs j) (ts.drop j) (cs.drop j) k ++ [takB (runR (runR bs ts cs j) (ts.drop j) (cs.drop j) k) (nth (ts.drop j) k) (nth (cs.drop j) k)] := rfl
    rw [e1, e2, e3, e4, h1, nth_drop, nth_drop, ← h2, List.append_assoc]
    exact ⟨rfl, rfl⟩
theorem Entries.take {ts cs : List Int} (h : Entries ts cs) (j : Nat) (hj : j ≤ ts.length) : Entries (ts.take j) (cs.take j) := by
  have h1 := h.len
  have h2 := h.same
  refine ⟨by rw [List.length_take]; omega, by rw [List.length_take, List.length_take]; omega, fun k hk => ?_, fun k hk => ?_⟩
  · rw [List.length_take] at hk
    rw [nth_take (by omega)]
    exact h.tick k (by omega)
  · rw [List.length_take] at hk
    rw [nth_take (by omega)]
    exact h.cost k (by omega)
theorem Entries.drop {ts cs : List Int} (h : Entries ts cs) (j : Nat) (hj : j ≤ ts.length) : Entries (ts.drop j) (cs.drop j) := by
  have h1 := h.len
  have h2 := h.same
  refine ⟨by rw [List.length_drop]; omega, by rw [List.length_drop, List.length_drop]; omega, fun k hk => ?_, fun k hk => ?_⟩
  · rw [List.length_drop] at hk
    rw [nth_drop]
    exact h.tick _ (by omega)
  · rw [List.length_drop] at hk
    rw [nth_drop]
    exact h.cost _ (by omega)
theorem bat_runA {bs : List Bk} {ts cs : List Int} : ∀ {n k : Nat}, k < n → bat (runA bs ts cs n) k = takB (runR bs ts cs k) (nth ts k) (nth cs k) := by
  intro n
  induction n with
  | zero => intro k h; omega
  | succ n ih =>
    intro k h
    unfold runA bat
    rw [List.getD_eq_getElem?_getD]
    rcases Nat.lt_or_ge k n with q | q
    · rw [List.getElem?_append_left (by rw [runA_len]; exact q), ← List.getD_eq_getElem?_getD]
      exact ih q
    · obtain rfl : k = n := by omega
      rw [List.getElem?_append_right (by rw [runA_len]; exact Nat.le_refl _), runA_len, Nat.sub_self]
      rfl

end Go.Proofs.Ytegbcagcfmijcaa
