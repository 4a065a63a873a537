/-
  Layer 14's mathematics: indices, what is valid, looking for a key, what Find, Steps, Put and Drop answer.
-/
import Derived.Test.YtalfnmlbidohcaaW13
namespace Go.Proofs.Ytalfnmlbidohcaa
open Go.RowKit

/-- A cell: Key, Place, Used. -/
structure Cel where
  k : Int
  p : Int
  u : Bool
theorem Cel.ext' {a b : Cel} (h1 : a.k = b.k) (h2 : a.p = b.p) (h3 : a.u = b.u) : a = b := by
  cases a; cases b; simp only at h1 h2 h3; subst h1 h2 h3; rfl
def Cel.zero : Cel := ⟨0, 0, false⟩
def LCel : Lay Cel where
  f c := [.int .u32 c.k, .int .i64 c.p, .bool c.u]
  s := 3
  pos := by decide
  len _ := rfl
  one c := by
    intro u hu
    simp at hu
    rcases hu with rfl | rfl | rfl <;> rfl
/-- The home of a key. -/
def hom (k : Int) : Nat := (k * 2654435769 % 4294967296 / 268435456).toNat
theorem hom_lt (k : Int) : hom k < 16 := by
  unfold hom
  have h1 : 0 ≤ k * 2654435769 % 4294967296 := Int.emod_nonneg _ (by decide)
  have h2 : k * 2654435769 % 4294967296 < 4294967296 := Int.emod_lt_of_pos _ (by decide)
  omega
/-- How many cells t comes behind f. -/
def awy (f t : Nat) : Nat := (t + 16 - f) % 16
/-- A cell of an index. -/
def cel (x : List Cel) (i : Nat) : Cel := x.getD i Cel.zero
theorem cel_at {x : List Cel} {i : Nat} (h : i < x.length) : x[i]? = some (cel x i) := by
  unfold cel
  rw [List.getD_eq_getElem?_getD, List.getElem?_eq_getElem h, Option.getD_some]
theorem cel_mem {x : List Cel} {i : Nat} (h : i < x.length) : cel x i ∈ x := by
  have := cel_at h
  exact List.mem_of_getElem? this
theorem cel_ex {x : List Cel} {c : Cel} (h : c ∈ x) : ∃ i, i < x.length ∧ cel x i = c := by
  obtain ⟨i, hi, e⟩ := List.mem_iff_getElem.1 h
  refine ⟨i, hi, ?_⟩
  unfold cel
  rw [List.getD_eq_getElem?_getD, List.getElem?_eq_getElem hi, Option.getD_some, e]
theorem cel_set {x : List Cel} {i j : Nat} {c : Cel} (hi : i < x.length) : cel (x.set i c) j = if i = j then c else cel x j := by
  unfold cel
  rw [List.getD_eq_getElem?_getD, List.getElem?_set, List.getD_eq_getElem?_getD]
  by_cases h : i = j
  · subst h
    simp [hi]
  · simp [h]
theorem cel_set_self {x : List Cel} {i : Nat} {c : Cel} (hi : i < x.length) : cel (x.set i c) i = c := by rw [cel_set hi, if_pos rfl]
theorem cel_set_ne {x : List Cel} {i j : Nat} {c : Cel} (hi : i < x.length) (h : i ≠ j) : cel (x.set i c) j = cel x j := by rw [cel_set hi, if_neg h]
/-- How many cells are used. -/
def cnt (x : List Cel) : Nat := x.countP (·.u)
theorem cnt_len (x : List Cel) : cnt x ≤ x.length := List.countP_le_length
/-- An index is valid. -/
structure Valid (x : List Cel) : Prop where
  len : x.length = 16
  few : cnt x ≤ 12
  zer : ∀ i, i < 16 → (cel x i).u = false → cel x i = Cel.zero
  plc : ∀ i, i < 16 → (cel x i).u = true → 0 ≤ (cel x i).p ∧ (cel x i).p < 16
  one : ∀ i j, i < 16 → j < 16 → (cel x i).u = true → (cel x j).u = true → (cel x i).k = (cel x j).k → i = j
  way : ∀ i, i < 16 → (cel x i).u = true → ∀ n, n < awy (hom (cel x i).k) i → (cel x ((hom (cel x i).k + n) % 16)).u = true

/-- m cells one behind the other are used: there are at least m. -/
theorem cnt_run {x : List Cel} (hl : x.length = 16) {h m : Nat} (hh : h < 16) (hm : m ≤ 16) (hu : ∀ n, n < m → (cel x ((h + n) % 16)).u = true) : m ≤ cnt x := by
  have e1 : cnt (x.drop h ++ x.take h) = cnt x := by
    unfold cnt
    rw [List.countP_append, Nat.add_comm, ← List.countP_append, List.take_append_drop]
  rw [← e1]
  have hat : ∀ n, n < 16 → (x.drop h ++ x.take h)[n]? = some (cel x ((h + n) % 16)) := by
    intro n hn
    by_cases q : n < 16 - h
    · rw [List.getElem?_append_left (by rw [List.length_drop]; omega), List.getElem?_drop, cel_at (by omega)]
      rw [Nat.mod_eq_of_lt (by omega)]
    · rw [List.getElem?_append_right (by rw [List.length_drop]; omega), List.length_drop, List.getElem?_take_of_lt (by omega), cel_at (by omega)]
      rw [show n - (x.length - h) = (h + n) % 16 by omega]
  obtain ⟨r, hr⟩ : ∃ r, x.drop h ++ x.take h = r := ⟨_, rfl⟩
  rw [hr] at hat ⊢
  have hrl : r.length = 16 := by rw [← hr]; simp; omega
  have e2 : cnt (r.take m) = m := by
    unfold cnt
    rw [List.countP_eq_length.2, List.length_take]
    · omega
    · intro c hc
      obtain ⟨n, hn, e⟩ := List.mem_iff_getElem.1 hc
      have hn2 : n < m := by rw [List.length_take] at hn; omega
      have := hat n (by omega)
      rw [List.getElem_take] at e
      rw [List.getElem?_eq_getElem (by omega), e] at this
      injection this with this
      rw [this]
      exact hu n hn2
  have e3 : cnt (r.take m) ≤ cnt r := by
    have : cnt r = cnt (r.take m) + cnt (r.drop m) := by
      unfold cnt
      rw [← List.countP_append, List.take_append_drop]
    omega
  omega
/-- From any cell on there is one that is not used. -/
theorem gap_ex {x : List Cel} (hl : x.length = 16) (hc : cnt x ≤ 12) {h : Nat} (hh : h < 16) : ∃ n, n ≤ 12 ∧ (cel x ((h + n) % 16)).u = false := by
  refine Classical.byContradiction fun q => ?_
  have := cnt_run hl hh (m := 13) (by omega) (fun n hn => by
    cases e : (cel x ((h + n) % 16)).u with
    | true => rfl
    | false => exact absurd ⟨n, by omega, e⟩ q)
  omega

/-- Looking ends at this cell. -/
def stp (x : List Cel) (key : Int) (i : Nat) : Bool := !(cel x i).u || (cel x i).k == key
/-- Looking for a key looks at n cells, and then at its last one. -/
def Look (x : List Cel) (key : Int) (n : Nat) : Prop := n < 16 ∧ stp x key ((hom key + n) % 16) = true ∧ ∀ m, m < n → stp x key ((hom key + m) % 16) = false
theorem stp_f {x : List Cel} {key : Int} {i : Nat} (h : stp x key i = false) : (cel x i).u = true ∧ (cel x i).k ≠ key := by
  unfold stp at h
  simp at h
  exact h
theorem stp_t {x : List Cel} {key : Int} {i : Nat} (h : stp x key i = true) : (cel x i).u = false ∨ (cel x i).k = key := by
  unfold stp at h
  simp at h
  exact h
theorem stp_of {x : List Cel} {key : Int} {i : Nat} (h : (cel x i).u = false ∨ (cel x i).k = key) : stp x key i = true := by
  unfold stp
  simp
  exact h
theorem stp_no {x : List Cel} {key : Int} {i : Nat} (h1 : (cel x i).u = true) (h2 : (cel x i).k ≠ key) : stp x key i = false := by
  unfold stp
  simp
  exact ⟨h1, h2⟩
theorem least {p : Nat → Bool} : ∀ (n : Nat), p n = true → ∃ m, m ≤ n ∧ p m = true ∧ ∀ j, j < m → p j = false
  | n, h => by
    induction n using Nat.strongRecOn with
    | ind n ih =>
      by_cases q : ∃ j, j < n ∧ p j = true
      · obtain ⟨j, hj, hp⟩ := q
        obtain ⟨m, hm, h1, h2⟩ := ih j hj hp
        exact ⟨m, by omega, h1, h2⟩
      · exact ⟨n, Nat.le_refl _, h, fun j hj => by
          cases e : p j with
          | false => rfl
          | true => exact absurd ⟨j, hj, e⟩ q⟩
theorem Look.ex {x : List Cel} (hl : x.length = 16) (hc : cnt x ≤ 12) (key : Int) : ∃ n, Look x key n ∧ n ≤ 12 := by
  obtain ⟨n, hn, hu⟩ := gap_ex hl hc (hom_lt key)
  obtain ⟨m, hm, h1, h2⟩ := least (p := fun n => stp x key ((hom key + n) % 16)) n (stp_of (Or.inl hu))
  exact ⟨m, ⟨by omega, h1, h2⟩, by omega⟩
theorem Look.uniq {x : List Cel} {key : Int} {m n : Nat} (h1 : Look x key m) (h2 : Look x key n) : m = n := by
  rcases Nat.lt_trichotomy m n with q | q | q
  · have := h2.2.2 m q
    rw [h1.2.1] at this
    cases this
  · exact q
  · have := h1.2.2 n q
    rw [h2.2.1] at this
    cases this
/-- The last cell that looking looks at. -/
def lst (key : Int) (n : Nat) : Nat := (hom key + n) % 16
theorem lst_lt (key : Int) (n : Nat) : lst key n < 16 := Nat.mod_lt _ (by decide)
theorem awy_lt (f t : Nat) : awy f t < 16 := Nat.mod_lt _ (by decide)
theorem awy_lst {i : Nat} (key : Int) (hi : i < 16) : lst key (awy (hom key) i) = i := by
  have := hom_lt key
  unfold lst awy
  omega
theorem lst_awy {n : Nat} (key : Int) (hn : n < 16) : awy (hom key) (lst key n) = n := by
  have := hom_lt key
  unfold lst awy
  omega
/-- A key that is there is what looking ends at. -/
theorem Valid.there {x : List Cel} (hv : Valid x) {i : Nat} (hi : i < 16) (hu : (cel x i).u = true) : Look x (cel x i).k (awy (hom (cel x i).k) i) := by
  refine ⟨awy_lt _ _, ?_, ?_⟩
  · have := awy_lst (cel x i).k hi
    unfold lst at this
    rw [this]
    exact stp_of (Or.inr rfl)
  · intro m hm
    have hu2 := hv.way i hi hu m hm
    refine stp_no hu2 fun e => ?_
    have := hv.one _ i (Nat.mod_lt _ (by decide)) hi hu2 hu e
    have h1 := hom_lt (cel x i).k
    unfold awy at hm
    omega
theorem Valid.last {x : List Cel} (hv : Valid x) {key : Int} {n i : Nat} (hn : Look x key n) (hi : i < 16) (hu : (cel x i).u = true) (hk : (cel x i).k = key) : lst key n = i := by
  subst hk
  rw [hn.uniq (hv.there hi hu)]
  exact awy_lst _ hi
/-- What looking ends at is used: it has the key. -/
theorem look_key {x : List Cel} {key : Int} {n : Nat} (hn : Look x key n) (hu : (cel x (lst key n)).u = true) : (cel x (lst key n)).k = key := by
  rcases stp_t hn.2.1 with q | q
  · unfold lst at hu
    rw [q] at hu
    cases hu
  · exact q
/-- What looking ends at is not used: no cell has the key. -/
theorem Valid.none {x : List Cel} (hv : Valid x) {key : Int} {n : Nat} (hn : Look x key n) (hu : (cel x (lst key n)).u = false) : ∀ i, i < 16 → (cel x i).u = true → (cel x i).k ≠ key := by
  intro i hi h1 h2
  rw [hv.last hn hi h1 h2, h1] at hu
  cases hu

/-- What Check tests of a used cell. -/
theorem valid_look {x : List Cel} (hl : x.length = 16) (hc : cnt x ≤ 12)
    (h : ∀ i, i < 16 → ((cel x i).u = false ∧ cel x i = Cel.zero) ∨ ((cel x i).u = true ∧ (∃ n, Look x (cel x i).k n ∧ lst (cel x i).k n = i) ∧ 0 ≤ (cel x i).p ∧ (cel x i).p < 16)) : Valid x where
  len := hl
  few := hc
  zer i hi hu := by
    rcases h i hi with ⟨_, e⟩ | ⟨e, _⟩
    · exact e
    · rw [hu] at e
      cases e
  plc i hi hu := by
    rcases h i hi with ⟨e, _⟩ | ⟨_, _, e⟩
    · rw [hu] at e
      cases e
    · exact e
  one i j hi hj hu hv e := by
    rcases h i hi with ⟨q, _⟩ | ⟨_, ⟨n, hn, en⟩, _⟩
    · rw [hu] at q
      cases q
    · rcases h j hj with ⟨q, _⟩ | ⟨_, ⟨m, hm, em⟩, _⟩
      · rw [hv] at q
        cases q
      · rw [e] at hn en
        rw [hn.uniq hm] at en
        omega
  way i hi hu n hn := by
    rcases h i hi with ⟨q, _⟩ | ⟨_, ⟨m, hm, em⟩, _⟩
    · rw [hu] at q
      cases q
    · have : awy (hom (cel x i).k) i = m := by
        have := lst_awy (cel x i).k hm.1
        rw [em] at this
        exact this
      exact (stp_f (hm.2.2 n (by omega))).1
/-- What Check answers. -/
def ChkX (x : List Cel) (q : Int) : Prop := (q = 0 ∧ Valid x) ∨ (q = 8 ∧ ¬ Valid x)
theorem ChkX.ex (x : List Cel) : ∃ q, ChkX x q := by
  by_cases h : Valid x
  · exact ⟨_, Or.inl ⟨rfl, h⟩⟩
  · exact ⟨_, Or.inr ⟨rfl, h⟩⟩
theorem ChkX.good {x : List Cel} {q : Int} (h : ChkX x q) (hv : Valid x) : 0 = q := by
  rcases h with ⟨rfl, _⟩ | ⟨_, n⟩
  · rfl
  · exact absurd hv n
theorem ChkX.bad {x : List Cel} {q : Int} (h : ChkX x q) (hv : ¬ Valid x) : 8 = q := by
  rcases h with ⟨_, n⟩ | ⟨rfl, _⟩
  · exact absurd n hv
  · rfl
/-- A key is there, at a cell. -/
def Has (x : List Cel) (key : Int) (i : Nat) : Prop := i < 16 ∧ (cel x i).u = true ∧ (cel x i).k = key
theorem Valid.has_uniq {x : List Cel} (hv : Valid x) {key : Int} {i j : Nat} (h1 : Has x key i) (h2 : Has x key j) : i = j :=
  hv.one i j h1.1 h2.1 h1.2.1 h2.2.1 (h1.2.2.trans h2.2.2.symm)

/-- Dropping: the cells behind the empty cell e, from i on. -/
def gap : Nat → List Cel → Nat → Nat → List Cel
  | 0, x, _, _ => x
  | f + 1, x, e, i => if (cel x i).u then (if awy e i ≤ awy (hom (cel x i).k) i then gap f ((x.set e (cel x i)).set i Cel.zero) i ((i + 1) % 16) else gap f x e ((i + 1) % 16)) else x
/-- There is a cell not used before one comes to e again. -/
def Stops (f : Nat) (x : List Cel) (e i : Nat) : Prop := ∃ m, m < f ∧ m < 15 ∧ (cel x ((i + m) % 16)).u = false ∧ ∀ n, n ≤ m → (i + n) % 16 ≠ e
theorem Stops.ne {f : Nat} {x : List Cel} {e i : Nat} (h : Stops f x e i) (hi : i < 16) : i ≠ e := by
  obtain ⟨m, _, _, _, h4⟩ := h
  have := h4 0 (by omega)
  omega
theorem Stops.more {f : Nat} {x : List Cel} {e i : Nat} (h : Stops (f + 1) x e i) (hi : i < 16) (hu : (cel x i).u = true) : ∃ m, m + 1 < f + 1 ∧ m + 1 < 15 ∧ (cel x ((i + 1 + m) % 16)).u = false ∧ ∀ n, n ≤ m + 1 → (i + n) % 16 ≠ e := by
  obtain ⟨m, h1, h2, h3, h4⟩ := h
  cases m with
  | zero =>
    rw [Nat.add_zero, Nat.mod_eq_of_lt hi, hu] at h3
    cases h3
  | succ m => exact ⟨m, h1, h2, by rw [show i + 1 + m = i + (m + 1) by omega]; exact h3, h4⟩
theorem Stops.next {f : Nat} {x : List Cel} {e i : Nat} (h : Stops (f + 1) x e i) (hi : i < 16) (hu : (cel x i).u = true) : Stops f x e ((i + 1) % 16) := by
  obtain ⟨m, h1, h2, h3, h4⟩ := h.more hi hu
  refine ⟨m, by omega, by omega, ?_, fun n hn => ?_⟩
  · rw [show ((i + 1) % 16 + m) % 16 = (i + 1 + m) % 16 by omega]
    exact h3
  · have := h4 (n + 1) (by omega)
    omega
theorem Stops.moved {f : Nat} {x : List Cel} {e i : Nat} (h : Stops (f + 1) x e i) (hl : x.length = 16) (he : e < 16) (hi : i < 16) (hu : (cel x i).u = true) (c : Cel) : Stops f ((x.set e c).set i Cel.zero) i ((i + 1) % 16) := by
  obtain ⟨m, h1, h2, h3, h4⟩ := h.more hi hu
  have h5 := h4 (m + 1) (by omega)
  refine ⟨m, by omega, by omega, ?_, fun n hn => by omega⟩
  rw [show ((i + 1) % 16 + m) % 16 = (i + 1 + m) % 16 by omega, cel_set_ne (by rw [List.length_set]; omega) (by omega), cel_set_ne (by omega) (by omega)]
  exact h3
/-- Valid but for the empty cell e, up to i. -/
structure Hole (x : List Cel) (e i : Nat) : Prop where
  len : x.length = 16
  emp : cel x e = Cel.zero
  btw : ∀ n, 0 < n → n < awy e i → (cel x ((e + n) % 16)).u = true
  way : ∀ j, j < 16 → (cel x j).u = true → ∀ n, n < awy (hom (cel x j).k) j → (cel x ((hom (cel x j).k + n) % 16)).u = true ∨ ((hom (cel x j).k + n) % 16 = e ∧ awy e i ≤ awy e j)
theorem Hole.next {x : List Cel} {e i : Nat} (h : Hole x e i) (he : e < 16) (hi : i < 16) (hne : i ≠ e) (hne2 : (i + 1) % 16 ≠ e) (hu : (cel x i).u = true) (ha : ¬ awy e i ≤ awy (hom (cel x i).k) i) : Hole x e ((i + 1) % 16) where
  len := h.len
  emp := h.emp
  btw n h0 hn := by
    by_cases q : n < awy e i
    · exact h.btw n h0 q
    · have : (e + n) % 16 = i := by unfold awy at hn q; omega
      rw [this]
      exact hu
  way j hj hv n hn := by
    rcases h.way j hj hv n hn with q | ⟨q, r⟩
    · exact Or.inl q
    · refine Or.inr ⟨q, ?_⟩
      by_cases e2 : j = i
      · subst e2
        have h1 := hom_lt (cel x j).k
        unfold awy at ha hn
        omega
      · unfold awy at r ⊢
        omega
theorem Hole.moved {x : List Cel} {e i : Nat} (h : Hole x e i) (he : e < 16) (hi : i < 16) (hne : i ≠ e) (hu : (cel x i).u = true) (ha : awy e i ≤ awy (hom (cel x i).k) i) : Hole ((x.set e (cel x i)).set i Cel.zero) i ((i + 1) % 16) := by
  have hl := h.len
  have c1 : ∀ j, j ≠ e → j ≠ i → cel ((x.set e (cel x i)).set i Cel.zero) j = cel x j := fun j h1 h2 => by
    rw [cel_set_ne (by rw [List.length_set]; omega) (Ne.symm h2), cel_set_ne (by omega) (Ne.symm h1)]
  have c2 : cel ((x.set e (cel x i)).set i Cel.zero) e = cel x i := by rw [cel_set_ne (by rw [List.length_set]; omega) hne, cel_set_self (by omega)]
  have c3 : cel ((x.set e (cel x i)).set i Cel.zero) i = Cel.zero := cel_set_self (by rw [List.length_set]; omega)
  refine ⟨by simp [hl], c3, fun n h0 hn => ?_, fun j hj hv n hn => ?_⟩
  · unfold awy at hn
    omega
  · have key : ∀ m, m < 16 → (cel x m).u = true ∨ m = e → m ≠ i → (cel ((x.set e (cel x i)).set i Cel.zero) m).u = true := fun m hm q r => by
      by_cases s : m = e
      · rw [s, c2]
        exact hu
      · rw [c1 m s r]
        exact q.resolve_right s
    have hm : ∀ m : Nat, m % 16 < 16 := fun m => Nat.mod_lt _ (by decide)
    have h1 := hom_lt (cel x i).k
    by_cases e2 : j = e
    · subst e2
      rw [c2] at hn ⊢
      refine Or.inl (key _ (hm _) ?_ ?_)
      · rcases h.way i hi hu n (by unfold awy at hn ha ⊢; omega) with q | ⟨q, _⟩
        · exact Or.inl q
        · exact Or.inr q
      · unfold awy at hn ha
        omega
    · have e3 : j ≠ i := by
        intro q
        subst q
        rw [c3] at hv
        cases hv
      rw [c1 j e2 e3] at hv hn ⊢
      by_cases e4 : (hom (cel x j).k + n) % 16 = i
      · refine Or.inr ⟨e4, ?_⟩
        unfold awy
        omega
      · refine Or.inl (key _ (hm _) ?_ e4)
        rcases h.way j hj hv n hn with q | ⟨q, _⟩
        · exact Or.inl q
        · exact Or.inr q
theorem Hole.done {x : List Cel} {e i : Nat} (h : Hole x e i) (he : e < 16) (hi : i < 16) (hne : i ≠ e) (hu : (cel x i).u = false) : ∀ j, j < 16 → (cel x j).u = true → ∀ n, n < awy (hom (cel x j).k) j → (cel x ((hom (cel x j).k + n) % 16)).u = true := by
  intro j hj hv n hn
  rcases h.way j hj hv n hn with q | ⟨q, r⟩
  · exact q
  · exfalso
    have h1 := hom_lt (cel x j).k
    have e1 : j ≠ i := by
      intro s
      subst s
      rw [hu] at hv
      cases hv
    -- i lies on the way from the home to j, behind e
    have e2 : n + awy e i < awy (hom (cel x j).k) j := by unfold awy at hn r ⊢; omega
    have e3 : (hom (cel x j).k + (n + awy e i)) % 16 = i := by unfold awy at hn r e2 ⊢; omega
    rcases h.way j hj hv _ e2 with s | ⟨s, _⟩
    · rw [e3, hu] at s
      cases s
    · rw [e3] at s
      exact hne s
theorem gap_way : ∀ (f : Nat) {x : List Cel} {e i : Nat}, Hole x e i → Stops f x e i → e < 16 → i < 16 →
    ∀ j, j < 16 → (cel (gap f x e i) j).u = true → ∀ n, n < awy (hom (cel (gap f x e i) j).k) j → (cel (gap f x e i) ((hom (cel (gap f x e i) j).k + n) % 16)).u = true
  | 0, x, e, i, h, hs, he, hi => by
    obtain ⟨m, h1, _⟩ := hs
    omega
  | f + 1, x, e, i, h, hs, he, hi => by
    have hne := hs.ne hi
    have hm : (i + 1) % 16 < 16 := Nat.mod_lt _ (by decide)
    unfold gap
    by_cases hu : (cel x i).u = true
    · rw [if_pos hu]
      by_cases ha : awy e i ≤ awy (hom (cel x i).k) i
      · rw [if_pos ha]
        exact gap_way f (h.moved he hi hne hu ha) (hs.moved h.len he hi hu _) hi hm
      · rw [if_neg ha]
        have hs2 := hs.next hi hu
        exact gap_way f (h.next he hi hne (hs2.ne hm) hu ha) hs2 he hm
    · rw [if_neg hu]
      exact h.done he hi hne (by simpa using hu)
/-- What is moved stays. -/
theorem gap_perm : ∀ (f : Nat) {x : List Cel} {e i : Nat}, x.length = 16 → cel x e = Cel.zero → Stops f x e i → e < 16 → i < 16 → List.Perm (gap f x e i) x
  | 0, x, e, i, _, _, _, _, _ => List.Perm.refl _
  | f + 1, x, e, i, hl, hz, hs, he, hi => by
    have hne := hs.ne hi
    have hm : (i + 1) % 16 < 16 := Nat.mod_lt _ (by decide)
    unfold gap
    by_cases hu : (cel x i).u = true
    · rw [if_pos hu]
      by_cases ha : awy e i ≤ awy (hom (cel x i).k) i
      · rw [if_pos ha]
        refine (gap_perm f (by simp [hl]) (cel_set_self (by rw [List.length_set]; omega)) (hs.moved hl he hi hu _) hi hm).trans ?_
        have := @List.set_set_perm Cel x e i (by omega) (by omega)
        have e1 : x[e]'(by omega) = Cel.zero := by
          have := cel_at (x := x) (i := e) (by omega)
          rw [List.getElem?_eq_getElem (by omega), hz] at this
          injection this
        have e2 : x[i]'(by omega) = cel x i := by
          have := cel_at (x := x) (i := i) (by omega)
          rw [List.getElem?_eq_getElem (by omega)] at this
          injection this
        rw [e1, e2] at this
        exact this
      · rw [if_neg ha]
        exact gap_perm f hl hz (hs.next hi hu) he hm
    · rw [if_neg hu]

/-- A key is there, with a place. -/
def Hs (x : List Cel) (k p : Int) : Prop := ∃ i, Has x k i ∧ (cel x i).p = p
theorem Hs.iff_mem {x : List Cel} (hl : x.length = 16) {k p : Int} : Hs x k p ↔ (⟨k, p, true⟩ : Cel) ∈ x := by
  constructor
  · rintro ⟨i, ⟨hi, hu, hk⟩, hp⟩
    have := cel_mem (x := x) (i := i) (by omega)
    rw [show cel x i = ⟨k, p, true⟩ from Cel.ext' hk hp hu] at this
    exact this
  · intro h
    obtain ⟨i, hi, e⟩ := cel_ex h
    exact ⟨i, ⟨by omega, by rw [e], by rw [e]⟩, by rw [e]⟩
/-- Different keys. -/
def Diff (x : List Cel) : Prop := x.Pairwise fun a b => a.u = true → b.u = true → a.k ≠ b.k
theorem diff_iff {x : List Cel} (hl : x.length = 16) : Diff x ↔ ∀ i j, i < 16 → j < 16 → (cel x i).u = true → (cel x j).u = true → (cel x i).k = (cel x j).k → i = j := by
  have hg : ∀ i (h : i < x.length), x[i] = cel x i := fun i h => by
    have := cel_at h
    rw [List.getElem?_eq_getElem h] at this
    injection this
  unfold Diff
  rw [List.pairwise_iff_getElem]
  constructor
  · intro h i j hi hj hu hv e
    rcases Nat.lt_trichotomy i j with q | q | q
    · have := h i j (by omega) (by omega) q
      rw [hg, hg] at this
      exact absurd e (this hu hv)
    · exact q
    · have := h j i (by omega) (by omega) q
      rw [hg, hg] at this
      exact absurd e.symm (this hv hu)
  · intro h i j hi hj q
    rw [hg, hg]
    intro hu hv e
    have := h i j (by omega) (by omega) hu hv e
    omega
theorem Diff.perm {x y : List Cel} (h : List.Perm x y) (hd : Diff y) : Diff x :=
  (h.pairwise_iff fun r hb ha e => r ha hb e.symm).2 hd
theorem cnt_perm {x y : List Cel} (h : List.Perm x y) : cnt x = cnt y := h.countP_eq _
theorem cnt_set {x : List Cel} {i : Nat} {c : Cel} (hi : i < x.length) : cnt (x.set i c) = cnt x - (if (cel x i).u then 1 else 0) + (if c.u then 1 else 0) := by
  unfold cnt
  rw [List.countP_set hi]
  have := cel_at hi
  rw [List.getElem?_eq_getElem hi] at this
  injection this with this
  rw [this]
theorem cnt_pos {x : List Cel} {i : Nat} (hi : i < x.length) (hu : (cel x i).u = true) : 0 < cnt x := by
  unfold cnt
  exact List.countP_pos_iff.2 ⟨cel x i, cel_mem hi, hu⟩

/-- The index with a key more. -/
def putL (x : List Cel) (key p : Int) (n : Nat) : List Cel := x.set (lst key n) ⟨key, p, true⟩
theorem put_len (x : List Cel) (key p : Int) (n : Nat) : (putL x key p n).length = x.length := by simp [putL]
theorem cel_put {x : List Cel} (hl : x.length = 16) (key p : Int) (n j : Nat) : cel (putL x key p n) j = if lst key n = j then ⟨key, p, true⟩ else cel x j :=
  cel_set (by have := lst_lt key n; omega)
theorem put_used {x : List Cel} (hl : x.length = 16) {key p : Int} {n j : Nat} (h : (cel x j).u = true) : (cel (putL x key p n) j).u = true := by
  rw [cel_put hl]
  by_cases q : lst key n = j
  · rw [if_pos q]
  · rw [if_neg q]
    exact h
theorem cnt_put {x : List Cel} (hl : x.length = 16) {key p : Int} {n : Nat} (hu : (cel x (lst key n)).u = false) : cnt (putL x key p n) = cnt x + 1 := by
  have := lst_lt key n
  unfold putL
  rw [cnt_set (by omega), hu]
  simp
theorem Valid.put {x : List Cel} (hv : Valid x) {key p : Int} {n : Nat} (hn : Look x key n) (hu : (cel x (lst key n)).u = false) (hp : 0 ≤ p ∧ p < 16) (hc : cnt x < 12) : Valid (putL x key p n) where
  len := (put_len x key p n).trans hv.len
  few := by rw [cnt_put hv.len hu]; omega
  zer i hi h := by
    rw [cel_put hv.len] at h ⊢
    by_cases q : lst key n = i
    · rw [if_pos q] at h
      cases h
    · rw [if_neg q] at h ⊢
      exact hv.zer i hi h
  plc i hi h := by
    rw [cel_put hv.len] at h ⊢
    by_cases q : lst key n = i
    · rw [if_pos q]
      exact hp
    · rw [if_neg q] at h ⊢
      exact hv.plc i hi h
  one i j hi hj h1 h2 e := by
    rw [cel_put hv.len] at h1 h2 e
    rw [cel_put hv.len] at e
    by_cases q : lst key n = i
    · by_cases r : lst key n = j
      · omega
      · rw [if_pos q, if_neg r] at e
        rw [if_neg r] at h2
        exact absurd e.symm (hv.none hn hu j hj h2)
    · rw [if_neg q] at h1 e
      by_cases r : lst key n = j
      · rw [if_pos r] at e
        exact absurd e (hv.none hn hu i hi h1)
      · rw [if_neg r] at h2 e
        exact hv.one i j hi hj h1 h2 e
  way i hi h m hm := by
    rw [cel_put hv.len key p n i] at h hm ⊢
    by_cases q : lst key n = i
    · rw [if_pos q] at hm ⊢
      simp only at hm ⊢
      rw [← q, lst_awy key hn.1] at hm
      exact put_used hv.len (stp_f (hn.2.2 m hm)).1
    · rw [if_neg q] at h hm ⊢
      exact put_used hv.len (hv.way i hi h m hm)
theorem hs_put {x : List Cel} (hv : Valid x) {key p : Int} {n : Nat} (hu : (cel x (lst key n)).u = false) {k q : Int} : Hs (putL x key p n) k q ↔ Hs x k q ∨ (k = key ∧ q = p) := by
  have hl := lst_lt key n
  constructor
  · rintro ⟨i, ⟨hi, h1, h2⟩, h3⟩
    rw [cel_put hv.len] at h1 h2 h3
    by_cases r : lst key n = i
    · rw [if_pos r] at h2 h3
      exact Or.inr ⟨h2.symm, h3.symm⟩
    · rw [if_neg r] at h1 h2 h3
      exact Or.inl ⟨i, ⟨hi, h1, h2⟩, h3⟩
  · rintro (⟨i, ⟨hi, h1, h2⟩, h3⟩ | ⟨rfl, rfl⟩)
    · have r : lst key n ≠ i := by
        intro r
        rw [r, h1] at hu
        cases hu
      refine ⟨i, ⟨hi, ?_, ?_⟩, ?_⟩ <;> rw [cel_put hv.len, if_neg r]
      · exact h1
      · exact h2
      · exact h3
    · refine ⟨lst k n, ⟨hl, ?_, ?_⟩, ?_⟩ <;> rw [cel_put hv.len, if_pos rfl]

/-- The index without the key of a cell. -/
def drpL (x : List Cel) (i : Nat) : List Cel := gap 16 (x.set i Cel.zero) i ((i + 1) % 16)
theorem drp_hole {x : List Cel} (hv : Valid x) {i : Nat} (hi : i < 16) : Hole (x.set i Cel.zero) i ((i + 1) % 16) := by
  have hl := hv.len
  refine ⟨by simp [hl], cel_set_self (by omega), fun n h0 hn => ?_, fun j hj hu n hn => ?_⟩
  · unfold awy at hn
    omega
  · by_cases q : i = j
    · subst q
      rw [cel_set_self (by omega)] at hu
      cases hu
    · rw [cel_set_ne (by omega) q] at hu hn ⊢
      by_cases r : i = (hom (cel x j).k + n) % 16
      · refine Or.inr ⟨r.symm, ?_⟩
        unfold awy
        omega
      · refine Or.inl ?_
        rw [cel_set_ne (by omega) r]
        exact hv.way j hj hu n hn
theorem drp_stops {x : List Cel} (hl : x.length = 16) (hc : cnt x ≤ 12) {i : Nat} (hi : i < 16) : Stops 16 (x.set i Cel.zero) i ((i + 1) % 16) := by
  obtain ⟨n, hn, hu⟩ := gap_ex hl hc (h := (i + 1) % 16) (by omega)
  refine ⟨n, by omega, by omega, ?_, fun m hm => by omega⟩
  rw [cel_set_ne (by omega) (by omega)]
  exact hu
theorem drp_perm {x : List Cel} (hv : Valid x) {i : Nat} (hi : i < 16) : List.Perm (drpL x i) (x.set i Cel.zero) :=
  gap_perm 16 (by simp [hv.len]) (cel_set_self (by have := hv.len; omega)) (drp_stops hv.len hv.few hi) hi (Nat.mod_lt _ (by decide))
theorem cnt_drp {x : List Cel} (hv : Valid x) {i : Nat} (hi : i < 16) (hu : (cel x i).u = true) : cnt (drpL x i) + 1 = cnt x := by
  have h1 := hv.len
  have h2 := cnt_pos (x := x) (i := i) (by omega) hu
  rw [cnt_perm (drp_perm hv hi), cnt_set (by omega), hu]
  simp [Cel.zero]
  omega
theorem Valid.drop {x : List Cel} (hv : Valid x) {i : Nat} (hi : i < 16) (hu : (cel x i).u = true) : Valid (drpL x i) := by
  have hp := drp_perm hv hi
  have hl := hv.len
  have hl2 : (drpL x i).length = 16 := by rw [hp.length_eq]; simp [hl]
  have hmem : ∀ c, c ∈ drpL x i → c = Cel.zero ∨ ∃ j, j < 16 ∧ cel x j = c := fun c hc => by
    have := hp.mem_iff.1 hc
    rcases List.mem_or_eq_of_mem_set this with q | q
    · obtain ⟨j, hj, e⟩ := cel_ex q
      exact Or.inr ⟨j, by omega, e⟩
    · exact Or.inl q
  have hd : Diff (x.set i Cel.zero) := by
    rw [diff_iff (by simp [hl])]
    intro a b ha hb h1 h2 e
    by_cases qa : i = a
    · subst qa
      rw [cel_set_self (by omega)] at h1
      cases h1
    · by_cases qb : i = b
      · subst qb
        rw [cel_set_self (by omega)] at h2
        cases h2
      · rw [cel_set_ne (by omega) qa] at h1 e
        rw [cel_set_ne (by omega) qb] at h2 e
        exact hv.one a b ha hb h1 h2 e
  refine ⟨hl2, ?_, fun j hj hu => ?_, fun j hj hu => ?_, (diff_iff hl2).1 (hd.perm hp), ?_⟩
  · have := cnt_drp hv hi hu
    have := hv.few
    omega
  · rcases hmem _ (cel_mem (x := drpL x i) (i := j) (by omega)) with q | ⟨k, hk, e⟩
    · exact q
    · rw [← e] at hu ⊢
      exact hv.zer k hk hu
  · rcases hmem _ (cel_mem (x := drpL x i) (i := j) (by omega)) with q | ⟨k, hk, e⟩
    · rw [q] at hu
      cases hu
    · rw [← e] at hu ⊢
      exact hv.plc k hk hu
  · exact gap_way 16 (drp_hole hv hi) (drp_stops hl hv.few hi) hi (Nat.mod_lt _ (by decide))
theorem hs_drp {x : List Cel} (hv : Valid x) {i : Nat} (hi : i < 16) (hu : (cel x i).u = true) {k q : Int} : Hs (drpL x i) k q ↔ Hs x k q ∧ k ≠ (cel x i).k := by
  have hp := drp_perm hv hi
  have hl := hv.len
  have hl2 : (drpL x i).length = 16 := by rw [hp.length_eq]; simp [hl]
  rw [Hs.iff_mem hl2, hp.mem_iff, ← Hs.iff_mem (by simp [hl])]
  constructor
  · rintro ⟨j, ⟨hj, h1, h2⟩, h3⟩
    by_cases r : i = j
    · subst r
      rw [cel_set_self (by omega)] at h1
      cases h1
    · rw [cel_set_ne (by omega) r] at h1 h2 h3
      refine ⟨⟨j, ⟨hj, h1, h2⟩, h3⟩, fun e => r ?_⟩
      exact (hv.one j i hj hi h1 hu (by rw [h2, e])).symm
  · rintro ⟨⟨j, ⟨hj, h1, h2⟩, h3⟩, ne⟩
    have r : i ≠ j := by
      intro r
      subst r
      exact ne h2.symm
    refine ⟨j, ⟨hj, ?_, ?_⟩, ?_⟩ <;> rw [cel_set_ne (by omega) r]
    · exact h1
    · exact h2
    · exact h3

/-- What Find answers. -/
def FndX (x : List Cel) (key p q : Int) : Prop := (q = 8 ∧ p = 0 ∧ ¬ Valid x) ∨ (Valid x ∧ q = 6 ∧ p = 0 ∧ ∀ i, ¬ Has x key i) ∨ (Valid x ∧ q = 0 ∧ ∃ i, Has x key i ∧ p = (cel x i).p)
/-- What Steps answers. -/
def StpX (x : List Cel) (key n q : Int) : Prop := (q = 8 ∧ n = 0 ∧ ¬ Valid x) ∨ (Valid x ∧ q = 0 ∧ ∃ m : Nat, Look x key m ∧ n = ((m + 1 : Nat) : Int))
/-- What Put answers. -/
def PutX (x : List Cel) (key p : Int) (y : List Cel) (q : Int) : Prop :=
  (q = 8 ∧ y = [] ∧ ¬ Valid x) ∨ (Valid x ∧ q = 2 ∧ y = [] ∧ ¬ (0 ≤ p ∧ p < 16)) ∨ (Valid x ∧ (0 ≤ p ∧ p < 16) ∧ q = 14 ∧ y = [] ∧ ∃ i, Has x key i) ∨
    (Valid x ∧ (0 ≤ p ∧ p < 16) ∧ (∀ i, ¬ Has x key i) ∧ q = 18 ∧ y = [] ∧ cnt x = 12) ∨ (Valid x ∧ (0 ≤ p ∧ p < 16) ∧ (∀ i, ¬ Has x key i) ∧ q = 0 ∧ cnt x < 12 ∧ ∃ n, Look x key n ∧ (cel x (lst key n)).u = false ∧ y = putL x key p n)
/-- What Drop answers. -/
def DrpX (x : List Cel) (key : Int) (y : List Cel) (q : Int) : Prop :=
  (q = 8 ∧ y = [] ∧ ¬ Valid x) ∨ (Valid x ∧ q = 6 ∧ y = [] ∧ ∀ i, ¬ Has x key i) ∨ (Valid x ∧ q = 0 ∧ ∃ i, Has x key i ∧ y = drpL x i)
theorem FndX.ex (x : List Cel) (key : Int) : ∃ p q, FndX x key p q := by
  by_cases hv : Valid x
  · by_cases h : ∃ i, Has x key i
    · obtain ⟨i, hi⟩ := h
      exact ⟨_, _, Or.inr (Or.inr ⟨hv, rfl, i, hi, rfl⟩)⟩
    · exact ⟨_, _, Or.inr (Or.inl ⟨hv, rfl, rfl, fun i hi => h ⟨i, hi⟩⟩)⟩
  · exact ⟨_, _, Or.inl ⟨rfl, rfl, hv⟩⟩
theorem StpX.ex (x : List Cel) (key : Int) : ∃ n q, StpX x key n q := by
  by_cases hv : Valid x
  · obtain ⟨n, hn, _⟩ := Look.ex hv.len hv.few key
    exact ⟨_, _, Or.inr ⟨hv, rfl, n, hn, rfl⟩⟩
  · exact ⟨_, _, Or.inl ⟨rfl, rfl, hv⟩⟩
theorem Valid.look_none {x : List Cel} (hv : Valid x) {key : Int} (h : ∀ i, ¬ Has x key i) : ∃ n, Look x key n ∧ n ≤ 12 ∧ (cel x (lst key n)).u = false := by
  obtain ⟨n, hn, hm⟩ := Look.ex hv.len hv.few key
  refine ⟨n, hn, hm, ?_⟩
  cases e : (cel x (lst key n)).u with
  | false => rfl
  | true => exact absurd ⟨lst_lt key n, e, look_key hn e⟩ (h (lst key n))
theorem Valid.look_has {x : List Cel} (hv : Valid x) {key : Int} {i : Nat} (h : Has x key i) : ∃ n, Look x key n ∧ n ≤ 12 ∧ lst key n = i := by
  obtain ⟨n, hn, hm⟩ := Look.ex hv.len hv.few key
  exact ⟨n, hn, hm, hv.last hn h.1 h.2.1 h.2.2⟩
theorem PutX.ex (x : List Cel) (key p : Int) : ∃ y q, PutX x key p y q := by
  by_cases hv : Valid x
  · by_cases hp : 0 ≤ p ∧ p < 16
    · by_cases h : ∃ i, Has x key i
      · exact ⟨_, _, Or.inr (Or.inr (Or.inl ⟨hv, hp, rfl, rfl, h⟩))⟩
      · have hn : ∀ i, ¬ Has x key i := fun i hi => h ⟨i, hi⟩
        by_cases hc : cnt x = 12
        · exact ⟨_, _, Or.inr (Or.inr (Or.inr (Or.inl ⟨hv, hp, hn, rfl, rfl, hc⟩)))⟩
        · obtain ⟨n, h1, _, h2⟩ := hv.look_none hn
          exact ⟨_, _, Or.inr (Or.inr (Or.inr (Or.inr ⟨hv, hp, hn, rfl, by have := hv.few; omega, n, h1, h2, rfl⟩)))⟩
    · exact ⟨_, _, Or.inr (Or.inl ⟨hv, rfl, rfl, hp⟩)⟩
  · exact ⟨_, _, Or.inl ⟨rfl, rfl, hv⟩⟩
theorem DrpX.ex (x : List Cel) (key : Int) : ∃ y q, DrpX x key y q := by
  by_cases hv : Valid x
  · by_cases h : ∃ i, Has x key i
    · obtain ⟨i, hi⟩ := h
      exact ⟨_, _, Or.inr (Or.inr ⟨hv, rfl, i, hi, rfl⟩)⟩
    · exact ⟨_, _, Or.inr (Or.inl ⟨hv, rfl, rfl, fun i hi => h ⟨i, hi⟩⟩)⟩
  · exact ⟨_, _, Or.inl ⟨rfl, rfl, hv⟩⟩
theorem drp_len {x : List Cel} (hv : Valid x) {i : Nat} (hi : i < 16) : (drpL x i).length = 16 := by
  rw [(drp_perm hv hi).length_eq]
  simp [hv.len]
theorem PutX.len {x y : List Cel} {key p q : Int} (h : PutX x key p y q) : y.length ≤ 16 := by
  rcases h with ⟨_, rfl, _⟩ | ⟨_, _, rfl, _⟩ | ⟨_, _, _, rfl, _⟩ | ⟨_, _, _, _, rfl, _⟩ | ⟨hv, _, _, _, _, n, _, _, rfl⟩
  · simp
  · simp
  · simp
  · simp
  · rw [put_len, hv.len]
    exact Nat.le_refl _
theorem DrpX.len {x y : List Cel} {key q : Int} (h : DrpX x key y q) : y.length ≤ 16 := by
  rcases h with ⟨_, rfl, _⟩ | ⟨_, _, rfl, _⟩ | ⟨hv, _, i, hi, rfl⟩
  · simp
  · simp
  · rw [drp_len hv hi.1]
    exact Nat.le_refl _
end Go.Proofs.Ytalfnmlbidohcaa
