/-
  Layer 13's mathematics: arenas, their free lists, what is valid, what Take, Give and Count answer.
-/
import Derived.Test.YtjhlpkkefdohjaaW13
namespace Go.Proofs.Ytjhlpkkefdohjaa
open Go.RowKit

/-- An arena: Next, Used, Free. -/
structure Ar where
  nx : List Int
  us : List Bool
  fr : Int
def Ar.zero : Ar := ⟨[], [], 0⟩
theorem Ar.ext' {A B : Ar} (h1 : A.nx = B.nx) (h2 : A.us = B.us) (h3 : A.fr = B.fr) : A = B := by
  cases A; cases B; simp only at h1 h2 h3; subst h1 h2 h3; rfl
/-- From p through the places of l one comes to q. -/
def Path (nx : List Int) : Int → List Nat → Int → Prop
  | p, [], q => p = q
  | p, i :: l, q => p = (i : Int) ∧ ∃ x, nx[i]? = some x ∧ Path nx x l q
theorem Path.snoc {nx : List Int} {i : Nat} {x : Int} (hx : nx[i]? = some x) : ∀ {l : List Nat} {p : Int}, Path nx p l (i : Int) → Path nx p (l ++ [i]) x
  | [], _, h => ⟨h, x, hx, rfl⟩
  | _ :: _, _, ⟨e, y, hy, h⟩ => ⟨e, y, hy, Path.snoc hx h⟩
theorem Path.rest {nx : List Int} : ∀ {l l' : List Nat} {p q : Int}, Path nx p l q → Path nx p l' (-1) → ∃ r, l' = l ++ r ∧ Path nx q r (-1)
  | [], l', _, _, h, h' => ⟨l', rfl, by cases h; exact h'⟩
  | i :: l, [], _, _, ⟨e, _⟩, h' => by
    have h' : _ = (-1 : Int) := h'
    omega
  | i :: l, j :: l', _, _, ⟨e, x, hx, h⟩, ⟨e', y, hy, h'⟩ => by
    obtain rfl : i = j := by omega
    rw [hx] at hy
    cases hy
    obtain ⟨r, hr, hp⟩ := Path.rest h h'
    exact ⟨r, by rw [hr]; rfl, hp⟩
theorem Path.lt {nx : List Int} : ∀ {l : List Nat} {p q : Int}, Path nx p l q → ∀ i ∈ l, i < nx.length
  | [], _, _, _, _, h => by cases h
  | j :: l, _, _, ⟨_, x, hx, h⟩, i, hi => by
    rcases List.mem_cons.1 hi with rfl | hi
    · exact (List.getElem?_eq_some_iff.1 hx).1
    · exact Path.lt h i hi
theorem Path.uniq {nx : List Int} {p : Int} {l l' : List Nat} (h : Path nx p l (-1)) (h' : Path nx p l' (-1)) : l = l' := by
  obtain ⟨r, rfl, hr⟩ := h.rest h'
  cases r with
  | nil => simp
  | cons i r =>
    have := hr.1
    omega
/-- What comes behind a place that is not of the path does not matter. -/
theorem Path.set {nx : List Int} {j : Nat} {y : Int} : ∀ {l : List Nat} {p q : Int}, j ∉ l → Path nx p l q → Path (nx.set j y) p l q
  | [], _, _, _, h => h
  | i :: l, _, _, hj, ⟨e, x, hx, h⟩ => ⟨e, x, by
      rw [List.getElem?_set_ne (by intro q; subst q; exact hj List.mem_cons_self)]
      exact hx, Path.set (fun q => hj (List.mem_cons_of_mem _ q)) h⟩
theorem nodup_le : ∀ (n : Nat) (l : List Nat), l.Nodup → (∀ i ∈ l, i < n) → l.length ≤ n
  | 0, l, _, h => by
    cases l with
    | nil => exact Nat.le_refl _
    | cons i l => exact absurd (h i List.mem_cons_self) (Nat.not_lt_zero _)
  | n + 1, l, hn, h => by
    have h1 := nodup_le n (l.erase n) (hn.erase _) (fun i hi => by
      have := (List.Nodup.mem_erase_iff hn).1 hi
      have := h i this.2
      omega)
    by_cases hm : n ∈ l
    · rw [List.length_erase_of_mem hm] at h1
      omega
    · rw [List.erase_of_not_mem hm] at h1
      omega
/-- The arena is valid, and l is its free list. -/
structure Valid (A : Ar) (l : List Nat) : Prop where
  pos : 1 ≤ A.nx.length
  most : A.nx.length ≤ 16
  len : A.us.length = A.nx.length
  path : Path A.nx A.fr l (-1)
  nodup : l.Nodup
  used : ∀ i : Nat, i < A.nx.length → A.us[i]? = some (decide (i ∉ l))
  next : ∀ i : Nat, i < A.nx.length → i ∉ l → A.nx[i]? = some (-1)
theorem Valid.uniq {A : Ar} {l l' : List Nat} (h : Valid A l) (h' : Valid A l') : l = l' := h.path.uniq h'.path
theorem Valid.lt {A : Ar} {l : List Nat} (h : Valid A l) {i : Nat} (hi : i ∈ l) : i < A.nx.length := h.path.lt i hi
theorem Valid.le {A : Ar} {l : List Nat} (h : Valid A l) : l.length ≤ A.nx.length := nodup_le _ _ h.nodup fun _ hi => h.lt hi
theorem Valid.free {A : Ar} {l : List Nat} (h : Valid A l) {i : Nat} (hi : i ∈ l) : A.us[i]? = some false := by
  rw [h.used i (h.lt hi)]
  simp [hi]
/-- How far Check has come along the free list. -/
structure Run (A : Ar) (l : List Nat) (p : Int) : Prop where
  path : Path A.nx A.fr l p
  nodup : l.Nodup
  free : ∀ i ∈ l, A.us[i]? = some false
theorem Run.start (A : Ar) : Run A [] A.fr := ⟨rfl, List.nodup_nil, fun _ h => by cases h⟩
theorem Run.lt {A : Ar} {l : List Nat} {p : Int} (h : Run A l p) {i : Nat} (hi : i ∈ l) : i < A.nx.length := h.path.lt i hi
theorem Run.step {A : Ar} {l : List Nat} {i : Nat} {x : Int} (h : Run A l (i : Int)) (hx : A.nx[i]? = some x) (hu : A.us[i]? = some false) (hi : i ∉ l) : Run A (l ++ [i]) x :=
  ⟨h.path.snoc hx, by
    rw [List.nodup_append]
    exact ⟨h.nodup, by simp, fun a ha b hb e => by
      simp at hb
      subst hb e
      exact hi ha⟩, fun j hj => by
    rcases List.mem_append.1 hj with q | q
    · exact h.free j q
    · rw [List.mem_singleton.1 q]; exact hu⟩
theorem Run.rest {A : Ar} {l l' : List Nat} {p : Int} (h : Run A l p) (hv : Valid A l') : ∃ r, l' = l ++ r ∧ Path A.nx p r (-1) := h.path.rest hv.path
theorem Run.out {A : Ar} {l l' : List Nat} {p : Int} (h : Run A l p) (hp : p ≠ -1) (hb : p < 0 ∨ (A.nx.length : Int) ≤ p) : ¬ Valid A l' := fun hv => by
  obtain ⟨r, _, hr⟩ := h.rest hv
  cases r with
  | nil => exact hp hr
  | cons i r =>
    have := hr.1
    have := (List.getElem?_eq_some_iff.1 hr.2.choose_spec.1).1
    omega
theorem Run.taken {A : Ar} {l l' : List Nat} {i : Nat} (h : Run A l (i : Int)) (hu : A.us[i]? = some true) : ¬ Valid A l' := fun hv => by
  obtain ⟨r, e, hr⟩ := h.rest hv
  cases r with
  | nil => have hr : (i : Int) = -1 := hr; omega
  | cons j r =>
    obtain rfl : i = j := by have := hr.1; omega
    have := hv.free (i := i) (by rw [e]; simp)
    rw [hu] at this
    cases this
theorem Run.twice {A : Ar} {l l' : List Nat} {i : Nat} (h : Run A l (i : Int)) (hi : i ∈ l) : ¬ Valid A l' := fun hv => by
  obtain ⟨r, e, hr⟩ := h.rest hv
  cases r with
  | nil => have hr : (i : Int) = -1 := hr; omega
  | cons j r =>
    obtain rfl : i = j := by have := hr.1; omega
    have := hv.nodup
    rw [e, List.nodup_append] at this
    exact this.2.2 i hi i List.mem_cons_self rfl
theorem Run.fin {A : Ar} {l l' : List Nat} (h : Run A l (-1)) (hv : Valid A l') : l' = l := h.path.uniq hv.path |>.symm
/-- What has been looked at, up to k. -/
def Seen (A : Ar) (l : List Nat) (k : Nat) : Prop := ∀ i, i < k → A.us[i]? = some (decide (i ∉ l)) ∧ (i ∉ l → A.nx[i]? = some (-1))
theorem Seen.zero (A : Ar) (l : List Nat) : Seen A l 0 := fun _ h => absurd h (Nat.not_lt_zero _)
theorem Seen.succ {A : Ar} {l : List Nat} {k : Nat} (h : Seen A l k) (h1 : A.us[k]? = some (decide (k ∉ l))) (h2 : k ∉ l → A.nx[k]? = some (-1)) : Seen A l (k + 1) := fun i hi => by
  rcases Nat.lt_or_ge i k with q | q
  · exact h i q
  · obtain rfl : i = k := by omega
    exact ⟨h1, h2⟩
theorem Run.valid {A : Ar} {l : List Nat} {k : Nat} (h : Run A l (-1)) (h1 : 1 ≤ A.nx.length) (h2 : A.nx.length ≤ 16) (h3 : A.us.length = A.nx.length) (hs : Seen A l k) (hk : A.us.length ≤ k) : Valid A l :=
  ⟨h1, h2, h3, h.path, h.nodup, fun i hi => (hs i (by omega)).1, fun i hi => (hs i (by omega)).2⟩
/-- What Check answers. -/
def ChkA (A : Ar) (q : Int) : Prop := (q = 0 ∧ ∃ l, Valid A l) ∨ (q = 8 ∧ ¬ ∃ l, Valid A l)
theorem ChkA.ex (A : Ar) : ∃ q, ChkA A q := by
  by_cases h : ∃ l, Valid A l
  · exact ⟨_, Or.inl ⟨rfl, h⟩⟩
  · exact ⟨_, Or.inr ⟨rfl, h⟩⟩
theorem ChkA.uniq {A : Ar} {p q : Int} (h : ChkA A p) (h' : ChkA A q) : p = q := by
  rcases h with ⟨rfl, h⟩ | ⟨rfl, h⟩ <;> rcases h' with ⟨rfl, h'⟩ | ⟨rfl, h'⟩
  · rfl
  · exact absurd h h'
  · exact absurd h' h
  · rfl
theorem ChkA.good {A : Ar} {l : List Nat} (h : Valid A l) : ChkA A 0 := Or.inl ⟨rfl, l, h⟩
theorem ChkA.bad {A : Ar} (h : ∀ l, ¬ Valid A l) : ChkA A 8 := Or.inr ⟨rfl, fun ⟨l, hl⟩ => h l hl⟩
theorem ChkA.big {A : Ar} (h : A.nx.length < 1 ∨ 16 < A.nx.length ∨ A.us.length ≠ A.nx.length) : ChkA A 8 := ChkA.bad fun l hl => by
  have := hl.pos
  have := hl.most
  have := hl.len
  omega
theorem ChkA.zero {A : Ar} (h : ChkA A 0) : ∃ l, Valid A l := by
  rcases h with ⟨_, h⟩ | ⟨h, _⟩
  · exact h
  · cases h
theorem ChkA.nz {A : Ar} {q : Int} (h : ChkA A q) (hq : q ≠ 0) : q = 8 ∧ ∀ l, ¬ Valid A l := by
  rcases h with ⟨rfl, _⟩ | ⟨rfl, h⟩
  · exact absurd rfl hq
  · exact ⟨rfl, fun l hl => h ⟨l, hl⟩⟩
/-- The arena behind a place that is taken, which was the first of the free list; behind one that is given back. -/
def Ar.took (A : Ar) (i : Nat) (x : Int) : Ar := ⟨A.nx.set i (-1), A.us.set i true, x⟩
def Ar.gave (A : Ar) (i : Nat) : Ar := ⟨A.nx.set i A.fr, A.us.set i false, i⟩
theorem Valid.head {A : Ar} {i : Nat} {r : List Nat} (h : Valid A (i :: r)) : A.fr = i ∧ i < A.nx.length ∧ i < A.us.length := ⟨h.path.1, h.lt List.mem_cons_self, by rw [h.len]; exact h.lt List.mem_cons_self⟩
theorem Valid.snd {A : Ar} {i : Nat} {r : List Nat} (h : Valid A (i :: r)) : ∃ x, A.nx[i]? = some x ∧ Path A.nx x r (-1) := h.path.2
theorem Valid.took {A : Ar} {i : Nat} {r : List Nat} {x : Int} (h : Valid A (i :: r)) (hx : A.nx[i]? = some x) : Valid (A.took i x) r := by
  have hn := List.nodup_cons.1 h.nodup
  obtain ⟨y, hy, hp⟩ := h.snd
  rw [hx] at hy
  cases hy
  have hi := h.head
  refine ⟨by simp [Ar.took]; exact h.pos, by simp [Ar.took]; exact h.most, by simp [Ar.took]; exact h.len, hp.set hn.1, hn.2, fun j hj => ?_, fun j hj hr => ?_⟩
  · simp [Ar.took] at hj ⊢
    rw [List.getElem?_set]
    by_cases e : i = j
    · subst e
      simp [hi.2.2, hn.1]
    · rw [if_neg e, h.used j hj]
      have : (j ∉ i :: r) ↔ (j ∉ r) := by simp [Ne.symm e]
      simp [Ne.symm e]
  · simp [Ar.took] at hj ⊢
    rw [List.getElem?_set]
    by_cases e : i = j
    · subst e
      simp [hj]
    · rw [if_neg e]
      exact h.next j hj (by simp [Ne.symm e, hr])
theorem Valid.gave {A : Ar} {l : List Nat} {i : Nat} (h : Valid A l) (hi : i < A.nx.length) (hu : A.us[i]? = some true) : i ∉ l ∧ Valid (A.gave i) (i :: l) := by
  have hn : i ∉ l := fun q => by
    rw [h.free q] at hu
    cases hu
  refine ⟨hn, by simp [Ar.gave]; exact h.pos, by simp [Ar.gave]; exact h.most, by simp [Ar.gave]; exact h.len, ⟨rfl, A.fr, by simp [Ar.gave, hi], h.path.set hn⟩, List.nodup_cons.2 ⟨hn, h.nodup⟩, fun j hj => ?_, fun j hj hr => ?_⟩
  · simp [Ar.gave] at hj ⊢
    rw [List.getElem?_set]
    by_cases e : i = j
    · subst e
      simp [h.len, hi]
    · rw [if_neg e, h.used j hj]
      simp [Ne.symm e]
  · simp [Ar.gave] at hj ⊢
    rw [List.getElem?_set]
    have e : i ≠ j := fun e => hr (by rw [e]; exact List.mem_cons_self)
    rw [if_neg e]
    exact h.next j hj (fun q => hr (List.mem_cons_of_mem _ q))
/-- What Take answers: the arena, the place, the error. -/
def TkA (A B : Ar) (p q : Int) : Prop :=
  (q = 8 ∧ (∀ l, ¬ Valid A l) ∧ B = Ar.zero ∧ p = 0) ∨ (q = 18 ∧ Valid A [] ∧ B = Ar.zero ∧ p = 0) ∨ (q = 0 ∧ ∃ i r x, Valid A (i :: r) ∧ A.nx[i]? = some x ∧ p = (i : Int) ∧ B = A.took i x)
theorem TkA.ex (A : Ar) : ∃ B p q, TkA A B p q := by
  by_cases h : ∃ l, Valid A l
  · obtain ⟨l, hl⟩ := h
    cases l with
    | nil => exact ⟨_, _, _, Or.inr (Or.inl ⟨rfl, hl, rfl, rfl⟩)⟩
    | cons i r =>
      obtain ⟨x, hx, _⟩ := hl.snd
      exact ⟨_, _, _, Or.inr (Or.inr ⟨rfl, i, r, x, hl, hx, rfl, rfl⟩)⟩
  · exact ⟨_, _, _, Or.inl ⟨rfl, fun l hl => h ⟨l, hl⟩, rfl, rfl⟩⟩
/-- What Give answers. -/
def GvA (A : Ar) (p : Int) (B : Ar) (q : Int) : Prop :=
  (q = 8 ∧ (∀ l, ¬ Valid A l) ∧ B = Ar.zero) ∨ (∃ l, Valid A l ∧ ((q = 2 ∧ (p < 0 ∨ (A.nx.length : Int) ≤ p) ∧ B = Ar.zero) ∨ (∃ i : Nat, p = i ∧ i < A.nx.length ∧ ((q = 36 ∧ A.us[i]? = some false ∧ B = Ar.zero) ∨ (q = 0 ∧ A.us[i]? = some true ∧ B = A.gave i)))))
theorem GvA.ex (A : Ar) (p : Int) : ∃ B q, GvA A p B q := by
  by_cases h : ∃ l, Valid A l
  · obtain ⟨l, hl⟩ := h
    by_cases hp : p < 0 ∨ (A.nx.length : Int) ≤ p
    · exact ⟨_, _, Or.inr ⟨l, hl, Or.inl ⟨rfl, hp, rfl⟩⟩⟩
    · obtain ⟨i, rfl⟩ : ∃ i : Nat, p = i := ⟨p.toNat, by omega⟩
      have hi : i < A.nx.length := by omega
      cases hb : decide (i ∉ l) with
      | true => exact ⟨_, _, Or.inr ⟨l, hl, Or.inr ⟨i, rfl, hi, Or.inr ⟨rfl, by rw [hl.used i hi, hb], rfl⟩⟩⟩⟩
      | false => exact ⟨_, _, Or.inr ⟨l, hl, Or.inr ⟨i, rfl, hi, Or.inl ⟨rfl, by rw [hl.used i hi, hb], rfl⟩⟩⟩⟩
  · exact ⟨_, _, Or.inl ⟨rfl, fun l hl => h ⟨l, hl⟩, rfl⟩⟩
/-- How many are used, of the first k. -/
def cntT (us : List Bool) (k : Nat) : Nat := (us.take k).count true
theorem cntT_zero (us : List Bool) : cntT us 0 = 0 := by simp [cntT]
theorem cntT_succ {us : List Bool} {k : Nat} {b : Bool} (h : us[k]? = some b) : cntT us (k + 1) = cntT us k + (if b then 1 else 0) := by
  obtain ⟨hk, e⟩ := List.getElem?_eq_some_iff.1 h
  unfold cntT
  rw [List.take_add_one, h]
  cases b <;> simp
theorem cntT_le (us : List Bool) (k : Nat) : cntT us k ≤ k := by
  unfold cntT
  exact Nat.le_trans List.count_le_length (by simp; omega)
theorem cntT_all {us : List Bool} {k : Nat} (h : us.length ≤ k) : cntT us k = us.count true := by
  unfold cntT
  rw [List.take_of_length_le h]
theorem count_all_true : ∀ (l : List Bool), (∀ b ∈ l, b = true) → l.count true = l.length
  | [], _ => rfl
  | b :: l, h => by
    have := h b List.mem_cons_self
    subst this
    rw [List.count_cons_self, count_all_true l (fun b hb => h b (List.mem_cons_of_mem _ hb)), List.length_cons]
theorem count_set {l : List Bool} {i : Nat} {b c : Bool} (h : l[i]? = some b) : (l.set i c).count true + (if b then 1 else 0) = l.count true + (if c then 1 else 0) := by
  induction l generalizing i with
  | nil => simp at h
  | cons x l ih =>
    cases i with
    | zero =>
      simp at h
      subst h
      cases x <;> cases c <;> simp
    | succ i =>
      simp at h
      have := ih h
      rw [List.set_cons_succ, List.count_cons, List.count_cons]
      omega
/-- The free places are those that are not used. -/
theorem Valid.count {A : Ar} {l : List Nat} (h : Valid A l) : A.us.count true + l.length = A.nx.length := by
  have : ∀ (l : List Nat) (us : List Bool), l.Nodup → (∀ i ∈ l, i < us.length) → (∀ i, i < us.length → us[i]? = some (decide (i ∉ l))) → us.count true + l.length = us.length := by
    intro l
    induction l with
    | nil =>
      intro us _ _ h
      rw [count_all_true us (fun b hb => by
        obtain ⟨i, hi⟩ := List.getElem?_of_mem hb
        have := h i (List.getElem?_eq_some_iff.1 hi).1
        rw [hi] at this
        simpa using this)]
      simp
    | cons j l ih =>
      intro us hn hl hu
      have hn' := List.nodup_cons.1 hn
      have hj := hl j List.mem_cons_self
      have h0 : us[j]? = some false := by rw [hu j hj]; simp
      have := ih (us.set j true) hn'.2 (fun i hi => by rw [List.length_set]; exact hl i (List.mem_cons_of_mem _ hi)) (fun i hi => by
        rw [List.length_set] at hi
        rw [List.getElem?_set]
        by_cases e : j = i
        · subst e
          simp [hj, hn'.1]
        · rw [if_neg e, hu i hi]
          simp [Ne.symm e])
      rw [List.length_set] at this
      have hc := count_set (c := true) h0
      simp at hc
      rw [List.length_cons]
      omega
  have := this l A.us h.nodup (fun i hi => by rw [h.len]; exact h.lt hi) (fun i hi => h.used i (by rw [← h.len]; exact hi))
  rw [this, h.len]
/-- A new arena. -/
def nextN (n k : Nat) : Int := if k + 1 < n then (k + 1 : Nat) else -1
def newA (n : Nat) : Ar := ⟨(List.range n).map (nextN n), List.replicate n false, 0⟩
theorem newA_at {n k : Nat} (h : k < n) : (newA n).nx[k]? = some (nextN n k) := by
  simp [newA, h]
theorem newA_path (n : Nat) : ∀ (m k : Nat), k + m + 1 = n → Path (newA n).nx (k : Int) (List.range' k (m + 1)) (-1)
  | 0, k, h => by
    refine ⟨rfl, -1, ?_, rfl⟩
    rw [newA_at (by omega)]
    unfold nextN
    rw [if_neg (by omega)]
  | m + 1, k, h => by
    refine ⟨rfl, ((k + 1 : Nat) : Int), ?_, newA_path n m (k + 1) (by omega)⟩
    rw [newA_at (by omega)]
    unfold nextN
    rw [if_pos (by omega)]
theorem newA_valid {n : Nat} (h1 : 1 ≤ n) (h2 : n ≤ 16) : Valid (newA n) (List.range' 0 n) := by
  obtain ⟨m, rfl⟩ : ∃ m, n = m + 1 := ⟨n - 1, by omega⟩
  refine ⟨by simp [newA], by simp [newA]; omega, by simp [newA], newA_path _ m 0 (by omega), List.nodup_range', fun i hi => ?_, fun i hi hn => ?_⟩
  · simp [newA] at hi ⊢
    rw [List.getElem?_replicate, if_pos hi]
    simp [hi]
  · simp [newA] at hi
    exact absurd (by simp [hi]) hn

/-- How arenas lie. -/
def LI : Lay Int := ⟨fun x => [.int .i64 x], 1, by decide, fun _ => rfl, fun x u hu => by simp at hu; subst hu; rfl⟩
def LB : Lay Bool := ⟨fun x => [.bool x], 1, by decide, fun _ => rfl, fun x u hu => by simp at hu; subst hu; rfl⟩
theorem flatI (xs : List Int) : flatR LI xs = xs.map (Value.int .i64) := by
  unfold flatR LI
  induction xs with
  | nil => rfl
  | cons x xs ih => simp [List.flatMap_cons, ih]
theorem flatB (xs : List Bool) : flatR LB xs = xs.map Value.bool := by
  unfold flatR LB
  induction xs with
  | nil => rfl
  | cons x xs ih => simp [List.flatMap_cons, ih]
def IsA (w : World) (v : Value) (A : Ar) : Prop := ∃ a b, v = .agg #[a, b, .int .i64 A.fr] ∧ IsR LI w a A.nx ∧ IsR LB w b A.us
theorem IsA.below {w w' : World} {v : Value} {A : Ar} (h : IsA w v A) (hb : Below w.heap.size w w') : IsA w' v A :=
  let ⟨a, b, e, h1, h2⟩ := h; ⟨a, b, e, h1.below hb, h2.below hb⟩
theorem IsA.alloc {w : World} {v : Value} {A : Ar} (h : IsA w v A) (x : Obj) : IsA (w.alloc x) v A := h.below ((Below.refl _ _).alloc (Nat.le_refl _) _)
end Go.Proofs.Ytjhlpkkefdohjaa
