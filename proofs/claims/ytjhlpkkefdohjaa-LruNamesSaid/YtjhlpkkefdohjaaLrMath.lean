/-
  Layer 15's mathematics: orders, their lists, what is valid, what Touch, Remove, Last and List answer.
-/
import Derived.Test.YtjhlpkkefdohjaaArMath
namespace Go.Proofs.Ytjhlpkkefdohjaa
open Go.RowKit

/-- An order: Prev, Next, Head, Tail. -/
structure Od where
  pv : List Int
  nx : List Int
  hd : Int
  tl : Int
def Od.zero : Od := ⟨[], [], 0, 0⟩
theorem Od.ext' {A B : Od} (h1 : A.pv = B.pv) (h2 : A.nx = B.nx) (h3 : A.hd = B.hd) (h4 : A.tl = B.tl) : A = B := by
  cases A; cases B; simp only at h1 h2 h3 h4; subst h1 h2 h3 h4; rfl
/-- What stands before a place of a list, of which p stands before the first one. -/
def prvO : Int → List Nat → Nat → Int
  | _, [], _ => -1
  | p, j :: l, i => if i = j then p else prvO (j : Int) l i
/-- The first place of a list. -/
def hdO : List Nat → Int
  | [] => -1
  | i :: _ => (i : Int)
/-- What stands behind a place of a list. -/
def nxtO : List Nat → Nat → Int
  | [], _ => -1
  | j :: l, i => if i = j then hdO l else nxtO l i
/-- The last place of a list. -/
def lstO : Int → List Nat → Int
  | p, [] => p
  | _, i :: l => lstO (i : Int) l
/-- The order of n places with a list. -/
def ofL (n : Nat) (l : List Nat) : Od := ⟨(List.range n).map (prvO (-1) l), (List.range n).map (nxtO l), hdO l, lstO (-1) l⟩
theorem ofL_pv (n : Nat) (l : List Nat) : (ofL n l).pv.length = n := by simp [ofL]
theorem ofL_nx (n : Nat) (l : List Nat) : (ofL n l).nx.length = n := by simp [ofL]
theorem ofL_pv_at {n i : Nat} {l : List Nat} (h : i < n) : (ofL n l).pv[i]? = some (prvO (-1) l i) := by simp [ofL, h]
theorem ofL_nx_at {n i : Nat} {l : List Nat} (h : i < n) : (ofL n l).nx[i]? = some (nxtO l i) := by simp [ofL, h]

theorem prvO_not {i : Nat} : ∀ {l : List Nat} {p : Int}, i ∉ l → prvO p l i = -1
  | [], _, _ => rfl
  | j :: l, p, h => by
    unfold prvO
    rw [if_neg (fun e => h (by rw [e]; exact List.mem_cons_self)), prvO_not (fun q => h (List.mem_cons_of_mem _ q))]
theorem nxtO_not {i : Nat} : ∀ {l : List Nat}, i ∉ l → nxtO l i = -1
  | [], _ => rfl
  | j :: l, h => by
    unfold nxtO
    rw [if_neg (fun e => h (by rw [e]; exact List.mem_cons_self)), nxtO_not (fun q => h (List.mem_cons_of_mem _ q))]
theorem lstO_app : ∀ (a b : List Nat) (p : Int), lstO p (a ++ b) = lstO (lstO p a) b
  | [], _, _ => rfl
  | _ :: a, b, _ => lstO_app a b _
theorem lstO_snoc (a : List Nat) (i : Nat) (p : Int) : lstO p (a ++ [i]) = (i : Int) := by rw [lstO_app]; rfl
theorem lstO_mem : ∀ (l : List Nat) (p : Int), (l = [] ∧ lstO p l = p) ∨ ∃ c, c ∈ l ∧ lstO p l = (c : Int)
  | [], _ => Or.inl ⟨rfl, rfl⟩
  | i :: l, p => by
    rcases lstO_mem l (i : Int) with ⟨_, h⟩ | ⟨c, hc, h⟩
    · exact Or.inr ⟨i, List.mem_cons_self, h⟩
    · exact Or.inr ⟨c, List.mem_cons_of_mem _ hc, h⟩
theorem prvO_mid {i : Nat} : ∀ {a b : List Nat} {p : Int}, i ∉ a → prvO p (a ++ i :: b) i = lstO p a
  | [], _, _, _ => by simp [prvO, lstO]
  | j :: a, b, p, h => by
    show (if i = j then p else prvO (j : Int) (a ++ i :: b) i) = lstO (j : Int) a
    rw [if_neg (fun e => h (by rw [e]; exact List.mem_cons_self)), prvO_mid (fun q => h (List.mem_cons_of_mem _ q))]
theorem nxtO_mid {i : Nat} : ∀ {a b : List Nat}, i ∉ a → nxtO (a ++ i :: b) i = hdO b
  | [], _, _ => by simp [nxtO]
  | j :: a, b, h => by
    show (if i = j then hdO (a ++ i :: b) else nxtO (a ++ i :: b) i) = hdO b
    rw [if_neg (fun e => h (by rw [e]; exact List.mem_cons_self)), nxtO_mid (fun q => h (List.mem_cons_of_mem _ q))]
theorem hdO_ne {l : List Nat} {j : Nat} (h : j ∉ l) : hdO l ≠ (j : Int) := by
  cases l with
  | nil => show (-1 : Int) ≠ j; omega
  | cons i l =>
    show (i : Int) ≠ j
    intro e
    exact h (by rw [show j = i by omega]; exact List.mem_cons_self)
theorem hdO_none {l : List Nat} : hdO l = -1 ↔ l = [] := by
  cases l with
  | nil => simp [hdO]
  | cons i l => exact ⟨fun h => by have h : (i : Int) = -1 := h; omega, fun h => by cases h⟩
theorem lstO_none {l : List Nat} : lstO (-1) l = -1 ↔ l = [] := by
  rcases lstO_mem l (-1) with ⟨h, e⟩ | ⟨c, hc, e⟩
  · rw [e]
    exact ⟨fun _ => h, fun _ => rfl⟩
  · rw [e]
    constructor
    · intro q
      omega
    · intro q
      subst q
      cases hc
/-- A place put before all others. -/
theorem prvO_cons {i j : Nat} {l : List Nat} (h : i ∉ l) : prvO (-1) (i :: l) j = if hdO l = (j : Int) then (i : Int) else prvO (-1) l j := by
  show (if j = i then -1 else prvO (i : Int) l j) = _
  by_cases e : j = i
  · subst e
    rw [if_pos rfl, if_neg (hdO_ne h), prvO_not h]
  · rw [if_neg e]
    cases l with
    | nil =>
      rw [if_neg (by show (-1 : Int) ≠ j; omega)]
      rfl
    | cons k l =>
      show (if j = k then (i : Int) else prvO k l j) = if (k : Int) = j then (i : Int) else if j = k then -1 else prvO k l j
      by_cases q : j = k
      · subst q
        simp
      · rw [if_neg q, if_neg (by omega), if_neg q]
theorem nxtO_cons {i j : Nat} {l : List Nat} : nxtO (i :: l) j = if j = i then hdO l else nxtO l j := rfl
/-- A place put behind all others. -/
theorem prvO_snoc {x j : Nat} : ∀ {a : List Nat} {p : Int}, x ∉ a → prvO p (a ++ [x]) j = if j = x then lstO p a else prvO p a j
  | [], p, _ => rfl
  | k :: a, p, h => by
    show (if j = k then p else prvO (k : Int) (a ++ [x]) j) = if j = x then lstO (k : Int) a else if j = k then p else prvO (k : Int) a j
    rw [prvO_snoc (fun q => h (List.mem_cons_of_mem _ q))]
    by_cases q : j = k
    · subst q
      rw [if_pos rfl, if_pos rfl, if_neg (fun e => h (by rw [← e]; exact List.mem_cons_self))]
    · rw [if_neg q, if_neg q]
theorem nxtO_snoc {x j : Nat} : ∀ {a : List Nat} {p : Int}, (p = -1 ∨ a ≠ []) → a.Nodup → x ∉ a → nxtO (a ++ [x]) j = if lstO p a = (j : Int) then (x : Int) else nxtO a j
  | [], p, hp, _, _ => by
    have : p = -1 := hp.resolve_right (by simp)
    subst this
    show (if j = x then -1 else -1) = if (-1 : Int) = j then (x : Int) else -1
    rw [if_neg (show ¬ (-1 : Int) = j by omega)]
    split <;> rfl
  | [k], p, _, _, h => by
    show (if j = k then (x : Int) else if j = x then -1 else -1) = if (k : Int) = j then (x : Int) else if j = k then -1 else -1
    by_cases q : j = k
    · subst q
      simp
    · rw [if_neg q, if_neg (show ¬ (k : Int) = j by omega), if_neg q]
      split <;> rfl
  | k :: m :: a, p, _, hn, h => by
    have hn' := List.nodup_cons.1 hn
    have ih := nxtO_snoc (x := x) (j := j) (a := m :: a) (p := (k : Int)) (Or.inr (by simp)) hn'.2 (fun q => h (List.mem_cons_of_mem _ q))
    show (if j = k then (m : Int) else nxtO ((m :: a) ++ [x]) j) = if lstO (k : Int) (m :: a) = (j : Int) then (x : Int) else if j = k then (m : Int) else nxtO (m :: a) j
    rw [ih]
    by_cases q : j = k
    · subst q
      rw [if_pos rfl, if_pos rfl]
      rcases lstO_mem (m :: a) (j : Int) with ⟨e, _⟩ | ⟨c, hc, e⟩
      · cases e
      · rw [e, if_neg]
        intro s
        exact hn'.1 (by rw [show j = c by omega]; exact hc)
    · rw [if_neg q, if_neg q]
theorem hdO_snoc {a : List Nat} (x : Nat) (h : a ≠ []) : hdO (a ++ [x]) = hdO a := by
  cases a with
  | nil => exact absurd rfl h
  | cons i a => rfl
/-- A place taken out. -/
theorem prvO_out {i j : Nat} {b : List Nat} : ∀ {a : List Nat} {p : Int}, (a ++ i :: b).Nodup → prvO p (a ++ b) j = if j = i then -1 else if hdO b = (j : Int) then lstO p a else prvO p (a ++ i :: b) j
  | [], p, h => by
    have hn := List.nodup_cons.1 h
    by_cases e : j = i
    · subst e
      rw [if_pos rfl]
      exact prvO_not hn.1
    · rw [if_neg e]
      show prvO p b j = if hdO b = (j : Int) then p else if j = i then p else prvO (i : Int) b j
      rw [if_neg e]
      cases b with
      | nil =>
        rw [if_neg (by show (-1 : Int) ≠ j; omega)]
        rfl
      | cons k b =>
        show (if j = k then p else prvO (k : Int) b j) = if (k : Int) = (j : Int) then p else if j = k then (i : Int) else prvO (k : Int) b j
        by_cases q : j = k
        · subst q
          simp
        · rw [if_neg q, if_neg (by omega), if_neg q]
  | c :: a, p, h => by
    have hn := List.nodup_cons.1 h
    have ih := prvO_out (i := i) (j := j) (b := b) (a := a) (p := (c : Int)) hn.2
    show (if j = c then p else prvO (c : Int) (a ++ b) j) = if j = i then -1 else if hdO b = (j : Int) then lstO (c : Int) a else if j = c then p else prvO (c : Int) (a ++ i :: b) j
    by_cases q : j = c
    · subst q
      rw [if_pos rfl, if_pos rfl, if_neg (fun e => hn.1 (by rw [e]; simp)), if_neg (hdO_ne (fun q => hn.1 (by simp [q])))]
    · rw [if_neg q, if_neg q, ih]
theorem nxtO_out {i j : Nat} {b : List Nat} : ∀ {a : List Nat} {p : Int}, (p = -1 ∨ a ≠ []) → (a ++ i :: b).Nodup → nxtO (a ++ b) j = if j = i then -1 else if lstO p a = (j : Int) then hdO b else nxtO (a ++ i :: b) j
  | [], p, hp, h => by
    have : p = -1 := hp.resolve_right (by simp)
    subst this
    have hn := List.nodup_cons.1 h
    by_cases e : j = i
    · subst e
      rw [if_pos rfl]
      exact nxtO_not hn.1
    · rw [if_neg e, if_neg (by show ¬ (-1 : Int) = j; omega)]
      show nxtO b j = if j = i then hdO b else nxtO b j
      rw [if_neg e]
  | [c], p, _, h => by
    have hn := List.nodup_cons.1 h
    have hn2 := List.nodup_cons.1 hn.2
    show (if j = c then hdO b else nxtO b j) = if j = i then -1 else if (c : Int) = (j : Int) then hdO b else if j = c then (i : Int) else if j = i then hdO b else nxtO b j
    by_cases e : j = i
    · subst e
      rw [if_pos rfl, if_neg (fun e => hn.1 (by rw [← e]; exact List.mem_cons_self)), nxtO_not hn2.1]
    · rw [if_neg e, if_neg e]
      by_cases q : j = c
      · subst q
        simp
      · rw [if_neg q, if_neg (by omega), if_neg q]
  | c :: d :: a, p, _, h => by
    have hn := List.nodup_cons.1 h
    have ih := nxtO_out (i := i) (j := j) (b := b) (a := d :: a) (p := (c : Int)) (Or.inr (by simp)) hn.2
    show (if j = c then (d : Int) else nxtO ((d :: a) ++ b) j) = if j = i then -1 else if lstO (c : Int) (d :: a) = (j : Int) then hdO b else if j = c then (d : Int) else nxtO ((d :: a) ++ i :: b) j
    by_cases q : j = c
    · subst q
      rw [if_pos rfl, if_pos rfl, if_neg (fun e => hn.1 (by rw [e]; simp))]
      rcases lstO_mem (d :: a) (j : Int) with ⟨e, _⟩ | ⟨c, hc, e⟩
      · cases e
      · rw [e, if_neg]
        intro s
        refine hn.1 ?_
        rw [show j = c by omega]
        exact List.mem_append_left _ hc
    · rw [if_neg q, if_neg q, ih]
theorem hdO_out {i : Nat} {a b : List Nat} (h : a ≠ []) : hdO (a ++ b) = hdO (a ++ i :: b) := by
  cases a with
  | nil => exact absurd rfl h
  | cons c a => rfl
theorem lstO_out {i : Nat} {a b : List Nat} (h : b ≠ []) : lstO (-1) (a ++ b) = lstO (-1) (a ++ i :: b) := by
  cases b with
  | nil => exact absurd rfl h
  | cons k b => rw [lstO_app, lstO_app]; rfl

theorem rm_set (n : Nat) (f : Nat → Int) (i : Nat) (x : Int) : ((List.range n).map f).set i x = (List.range n).map fun j => if j = i then x else f j := by
  apply List.ext_getElem?
  intro j
  rw [List.getElem?_set]
  by_cases hj : j < n
  · by_cases e : i = j
    · subst e
      simp [hj]
    · simp [hj, e, Ne.symm e]
  · have : ¬ (j < n) := hj
    by_cases e : i = j
    · subst e
      simp [hj]
    · simp [e, hj]
theorem rm_eq {n : Nat} {f g : Nat → Int} (h : ∀ j, f j = g j) : (List.range n).map f = (List.range n).map g := by rw [show f = g from funext h]
/-- The rows behind what putFirst does. -/
theorem put_nil {n i : Nat} : (ofL n [i]).pv = (ofL n []).pv ∧ (ofL n [i]).nx = (ofL n []).nx.set i (-1) := by
  refine ⟨rm_eq fun j => ?_, ?_⟩
  · rw [prvO_cons (by simp), if_neg (by show ¬ (-1 : Int) = j; omega)]
  · show (List.range n).map _ = ((List.range n).map _).set i (-1)
    rw [rm_set]
    exact rm_eq fun j => rfl
theorem put_cons {n i h : Nat} {l : List Nat} (hi : i ∉ h :: l) : (ofL n (i :: h :: l)).pv = (ofL n (h :: l)).pv.set h (i : Int) ∧ (ofL n (i :: h :: l)).nx = (ofL n (h :: l)).nx.set i (h : Int) := by
  refine ⟨?_, ?_⟩
  · show (List.range n).map _ = ((List.range n).map _).set h (i : Int)
    rw [rm_set]
    refine rm_eq fun j => ?_
    rw [prvO_cons hi]
    show (if (h : Int) = (j : Int) then (i : Int) else _) = _
    by_cases q : j = h
    · subst q
      simp
    · rw [if_neg (by omega), if_neg q]
  · show (List.range n).map _ = ((List.range n).map _).set i (h : Int)
    rw [rm_set]
    exact rm_eq fun j => rfl
/-- The rows behind what takeOut does. -/
theorem out_pv_nil {n i : Nat} {a : List Nat} (h : (a ++ [i]).Nodup) : (ofL n (a ++ [])).pv = (ofL n (a ++ [i])).pv.set i (-1) := by
  show (List.range n).map _ = ((List.range n).map _).set i (-1)
  rw [rm_set]
  refine rm_eq fun j => ?_
  rw [prvO_out h]
  by_cases e : j = i
  · rw [if_pos e, if_pos e]
  · rw [if_neg e, if_neg e, if_neg (by show ¬ (-1 : Int) = j; omega)]
theorem out_pv_cons {n i k : Nat} {a b : List Nat} (h : (a ++ i :: k :: b).Nodup) : (ofL n (a ++ k :: b)).pv = ((ofL n (a ++ i :: k :: b)).pv.set k (lstO (-1) a)).set i (-1) := by
  show (List.range n).map _ = (((List.range n).map _).set k _).set i (-1)
  rw [rm_set, rm_set]
  refine rm_eq fun j => ?_
  rw [prvO_out h]
  show (if j = i then -1 else if (k : Int) = (j : Int) then _ else _) = _
  by_cases q : j = k
  · subst q
    simp
  · rw [if_neg (show ¬ (k : Int) = (j : Int) by omega), if_neg q]
theorem out_nx_nil {n i : Nat} {b : List Nat} (h : (i :: b).Nodup) : (ofL n b).nx = (ofL n (i :: b)).nx.set i (-1) := by
  show (List.range n).map _ = ((List.range n).map _).set i (-1)
  rw [rm_set]
  refine rm_eq fun j => ?_
  have := nxtO_out (i := i) (j := j) (b := b) (a := []) (p := -1) (Or.inl rfl) h
  rw [show ([] : List Nat) ++ b = b from rfl] at this
  rw [this]
  by_cases e : j = i
  · rw [if_pos e, if_pos e]
  · rw [if_neg e, if_neg e, if_neg (by show ¬ (-1 : Int) = j; omega)]
    rfl
theorem out_nx_cons {n i c : Nat} {a b : List Nat} (hc : lstO (-1) a = (c : Int)) (h : (a ++ i :: b).Nodup) : (ofL n (a ++ b)).nx = ((ofL n (a ++ i :: b)).nx.set c (hdO b)).set i (-1) := by
  show (List.range n).map _ = (((List.range n).map _).set c _).set i (-1)
  rw [rm_set, rm_set]
  refine rm_eq fun j => ?_
  rw [nxtO_out (Or.inl rfl) h, hc]
  by_cases q : j = c
  · subst q
    simp
  · rw [if_neg (show ¬ (c : Int) = (j : Int) by omega), if_neg q]
/-- The rows behind what the reference does with one more place. -/
theorem snoc_pv {n x : Nat} {a : List Nat} (h : x ∉ a) : (ofL n (a ++ [x])).pv = (ofL n a).pv.set x (lstO (-1) a) := by
  show (List.range n).map _ = ((List.range n).map _).set x _
  rw [rm_set]
  exact rm_eq fun j => prvO_snoc h
theorem snoc_nx {n x c : Nat} {a : List Nat} (hc : lstO (-1) a = (c : Int)) (hn : a.Nodup) (h : x ∉ a) : (ofL n (a ++ [x])).nx = (ofL n a).nx.set c (x : Int) := by
  show (List.range n).map _ = ((List.range n).map _).set c _
  rw [rm_set]
  refine rm_eq fun j => ?_
  rw [nxtO_snoc (Or.inl rfl) hn h, hc]
  by_cases q : j = c
  · subst q
    simp
  · rw [if_neg (show ¬ (c : Int) = (j : Int) by omega), if_neg q]
theorem one_pv {n x : Nat} : (ofL n [x]).pv = (ofL n []).pv := put_nil.1
theorem one_nx {n x : Nat} : (ofL n [x]).nx = (ofL n []).nx := by
  refine rm_eq fun j => ?_
  show (if j = x then -1 else -1) = (-1 : Int)
  split <;> rfl
theorem none_pv (n : Nat) : (ofL n []).pv = List.replicate n (-1) := by
  have h : (List.range n).map (fun _ => (-1 : Int)) = List.replicate (List.range n).length (-1) := List.map_const'
  rw [List.length_range] at h
  exact h
theorem none_nx (n : Nat) : (ofL n []).nx = List.replicate n (-1) := none_pv n

theorem path_of {nx : List Int} : ∀ {b : List Nat}, (∀ i ∈ b, nx[i]? = some (nxtO b i)) → b.Nodup → Path nx (hdO b) b (-1)
  | [], _, _ => rfl
  | i :: b, h, hn => by
    have hn := List.nodup_cons.1 hn
    refine ⟨rfl, hdO b, ?_, path_of (fun j hj => ?_) hn.2⟩
    · have := h i List.mem_cons_self
      simpa [nxtO] using this
    · have := h j (List.mem_cons_of_mem _ hj)
      have hne : j ≠ i := fun e => hn.1 (by rw [← e]; exact hj)
      rwa [nxtO_cons, if_neg hne] at this
theorem of_path {nx : List Int} : ∀ {b : List Nat} {p : Int}, Path nx p b (-1) → b.Nodup → p = hdO b ∧ ∀ i ∈ b, nx[i]? = some (nxtO b i)
  | [], _, h, _ => ⟨h, fun _ q => by cases q⟩
  | i :: b, _, ⟨e, x, hx, h⟩, hn => by
    have hn := List.nodup_cons.1 hn
    obtain ⟨h1, h2⟩ := of_path h hn.2
    refine ⟨e, fun j hj => ?_⟩
    rcases List.mem_cons.1 hj with rfl | hj
    · rw [nxtO_cons, if_pos rfl, ← h1, hx]
    · have hne : j ≠ i := fun e => hn.1 (by rw [← e]; exact hj)
      rw [nxtO_cons, if_neg hne]
      exact h2 j hj

/-- The order is valid, and l is its list. -/
structure VO (O : Od) (l : List Nat) : Prop where
  pos : 1 ≤ O.pv.length
  most : O.pv.length ≤ 16
  lt : ∀ i ∈ l, i < O.pv.length
  nodup : l.Nodup
  eq : O = ofL O.pv.length l
theorem VO.of {n : Nat} {l : List Nat} (h1 : 1 ≤ n) (h2 : n ≤ 16) (h3 : ∀ i ∈ l, i < n) (h4 : l.Nodup) : VO (ofL n l) l := by
  refine ⟨?_, ?_, ?_, h4, ?_⟩ <;> rw [ofL_pv] <;> assumption
theorem VO.len {O : Od} {l : List Nat} (h : VO O l) : O.nx.length = O.pv.length := by
  have := ofL_nx O.pv.length l
  rw [← h.eq] at this
  exact this
theorem VO.hd {O : Od} {l : List Nat} (h : VO O l) : O.hd = hdO l := by
  have : (ofL O.pv.length l).hd = hdO l := rfl
  rwa [← h.eq] at this
theorem VO.tl {O : Od} {l : List Nat} (h : VO O l) : O.tl = lstO (-1) l := by
  have : (ofL O.pv.length l).tl = lstO (-1) l := rfl
  rwa [← h.eq] at this
theorem VO.pv {O : Od} {l : List Nat} (h : VO O l) {i : Nat} (hi : i < O.pv.length) : O.pv[i]? = some (prvO (-1) l i) := by
  have := ofL_pv_at (l := l) hi
  rwa [← h.eq] at this
theorem VO.nx {O : Od} {l : List Nat} (h : VO O l) {i : Nat} (hi : i < O.pv.length) : O.nx[i]? = some (nxtO l i) := by
  have := ofL_nx_at (l := l) hi
  rwa [← h.eq] at this
theorem VO.path {O : Od} {l : List Nat} (h : VO O l) : Path O.nx O.hd l (-1) := by
  rw [h.hd]
  exact path_of (fun i hi => h.nx (h.lt i hi)) h.nodup
theorem VO.uniq {O : Od} {l l' : List Nat} (h : VO O l) (h' : VO O l') : l = l' := h.path.uniq h'.path
theorem VO.le {O : Od} {l : List Nat} (h : VO O l) : l.length ≤ O.pv.length := nodup_le _ _ h.nodup h.lt

/-- How far Check has come along the list. -/
structure RunO (O : Od) (l : List Nat) (p : Int) : Prop where
  path : Path O.nx O.hd l p
  prev : ∀ i ∈ l, O.pv[i]? = some (prvO (-1) l i)
  nodup : l.Nodup
theorem RunO.start (O : Od) : RunO O [] O.hd := ⟨rfl, fun _ h => (by cases h), List.nodup_nil⟩
theorem RunO.lt {O : Od} {l : List Nat} {p : Int} (h : RunO O l p) {i : Nat} (hi : i ∈ l) : i < O.nx.length := h.path.lt i hi
theorem RunO.new {O : Od} {l : List Nat} {p : Int} {i : Nat} (h : RunO O l p) (hu : O.pv[i]? = some (lstO (-1) l)) : i ∉ l := fun hi => by
  obtain ⟨a, b, rfl⟩ := List.append_of_mem hi
  have hn := h.nodup
  have hn2 := List.nodup_append.1 hn
  have hia : i ∉ a := fun q => hn2.2.2 i q i List.mem_cons_self rfl
  have h1 := h.prev i hi
  rw [hu, prvO_mid hia, lstO_app] at h1
  injection h1 with h1
  have h1 : lstO (i : Int) b = lstO (-1) a := h1
  rcases lstO_mem b (i : Int) with ⟨_, e⟩ | ⟨c, hc, e⟩ <;> rcases lstO_mem a (-1) with ⟨_, e'⟩ | ⟨d, hd, e'⟩ <;> rw [e, e'] at h1
  · omega
  · exact hia (by rw [show i = d by omega]; exact hd)
  · omega
  · exact hn2.2.2 d hd c (List.mem_cons_of_mem _ hc) (by omega)
theorem RunO.step {O : Od} {l : List Nat} {i : Nat} {x : Int} (h : RunO O l (i : Int)) (hx : O.nx[i]? = some x) (hu : O.pv[i]? = some (lstO (-1) l)) : RunO O (l ++ [i]) x := by
  have hi := h.new hu
  refine ⟨h.path.snoc hx, fun j hj => ?_, ?_⟩
  · rw [prvO_snoc hi]
    rcases List.mem_append.1 hj with q | q
    · rw [if_neg (fun e => hi (by rw [← e]; exact q))]
      exact h.prev j q
    · rw [List.mem_singleton.1 q, if_pos rfl]
      exact hu
  · rw [List.nodup_append]
    exact ⟨h.nodup, by simp, fun a ha b hb e => by
      simp at hb
      subst hb e
      exact hi ha⟩
theorem RunO.rest {O : Od} {l l' : List Nat} {p : Int} (h : RunO O l p) (hv : VO O l') : ∃ r, l' = l ++ r ∧ Path O.nx p r (-1) := h.path.rest hv.path
theorem RunO.out {O : Od} {l l' : List Nat} {p : Int} (h : RunO O l p) (hp : p ≠ -1) (hb : p < 0 ∨ (O.pv.length : Int) ≤ p) : ¬ VO O l' := fun hv => by
  obtain ⟨r, e, hr⟩ := h.rest hv
  cases r with
  | nil => exact hp hr
  | cons i r =>
    have := hr.1
    have := hv.lt i (by rw [e]; simp)
    omega
theorem RunO.diff {O : Od} {l l' : List Nat} {i : Nat} {y : Int} (h : RunO O l (i : Int)) (hu : O.pv[i]? = some y) (hy : y ≠ lstO (-1) l) : ¬ VO O l' := fun hv => by
  obtain ⟨r, e, hr⟩ := h.rest hv
  cases r with
  | nil => have hr : (i : Int) = -1 := hr; omega
  | cons j r =>
    obtain rfl : i = j := by have := hr.1; omega
    have hil : i < O.pv.length := hv.lt i (by rw [e]; simp)
    have h1 := hv.pv hil
    have hn := hv.nodup
    rw [e, List.nodup_append] at hn
    rw [hu, e, prvO_mid (fun q => hn.2.2 i q i List.mem_cons_self rfl)] at h1
    injection h1 with h1
    exact hy h1
theorem RunO.fin {O : Od} {l l' : List Nat} (h : RunO O l (-1)) (hv : VO O l') : l' = l := h.path.uniq hv.path |>.symm
/-- What has been looked at, up to k. -/
def SeenO (O : Od) (l : List Nat) (k : Nat) : Prop := ∀ i, i < k → i ∉ l → O.pv[i]? = some (-1) ∧ O.nx[i]? = some (-1)
theorem SeenO.zero (O : Od) (l : List Nat) : SeenO O l 0 := fun _ h => absurd h (Nat.not_lt_zero _)
theorem SeenO.succ {O : Od} {l : List Nat} {k : Nat} (h : SeenO O l k) (h1 : k ∉ l → O.pv[k]? = some (-1) ∧ O.nx[k]? = some (-1)) : SeenO O l (k + 1) := fun i hi hn => by
  rcases Nat.lt_or_ge i k with q | q
  · exact h i q hn
  · obtain rfl : i = k := by omega
    exact h1 hn
theorem RunO.good {O : Od} {l : List Nat} {k : Nat} (h : RunO O l (-1)) (h1 : 1 ≤ O.pv.length) (h2 : O.pv.length ≤ 16) (h3 : O.nx.length = O.pv.length) (ht : O.tl = lstO (-1) l) (hs : SeenO O l k) (hk : O.pv.length ≤ k) : VO O l := by
  obtain ⟨e1, e2⟩ := of_path h.path h.nodup
  refine ⟨h1, h2, fun i hi => by rw [← h3]; exact h.lt hi, h.nodup, Od.ext' ?_ ?_ e1 ht⟩
  · apply List.ext_getElem?
    intro i
    by_cases hi : i < O.pv.length
    · rw [ofL_pv_at hi]
      by_cases q : i ∈ l
      · exact h.prev i q
      · rw [(hs i (by omega) q).1, prvO_not q]
    · rw [List.getElem?_eq_none (by omega), List.getElem?_eq_none (by rw [ofL_pv]; omega)]
  · apply List.ext_getElem?
    intro i
    by_cases hi : i < O.pv.length
    · rw [ofL_nx_at hi]
      by_cases q : i ∈ l
      · exact e2 i q
      · rw [(hs i (by omega) q).2, nxtO_not q]
    · rw [List.getElem?_eq_none (by omega), List.getElem?_eq_none (by rw [ofL_nx]; omega)]
/-- What Check answers. -/
def ChkO (O : Od) (q : Int) : Prop := (q = 0 ∧ ∃ l, VO O l) ∨ (q = 8 ∧ ¬ ∃ l, VO O l)
theorem ChkO.ex (O : Od) : ∃ q, ChkO O q := by
  by_cases h : ∃ l, VO O l
  · exact ⟨_, Or.inl ⟨rfl, h⟩⟩
  · exact ⟨_, Or.inr ⟨rfl, h⟩⟩
theorem ChkO.uniq {O : Od} {p q : Int} (h : ChkO O p) (h' : ChkO O q) : p = q := by
  rcases h with ⟨rfl, h⟩ | ⟨rfl, h⟩ <;> rcases h' with ⟨rfl, h'⟩ | ⟨rfl, h'⟩
  · rfl
  · exact absurd h h'
  · exact absurd h' h
  · rfl
theorem ChkO.good {O : Od} {l : List Nat} (h : VO O l) : ChkO O 0 := Or.inl ⟨rfl, l, h⟩
theorem ChkO.bad {O : Od} (h : ∀ l, ¬ VO O l) : ChkO O 8 := Or.inr ⟨rfl, fun ⟨l, hl⟩ => h l hl⟩
theorem ChkO.big {O : Od} (h : O.pv.length < 1 ∨ 16 < O.pv.length ∨ O.nx.length ≠ O.pv.length) : ChkO O 8 := ChkO.bad fun l hl => by
  have := hl.pos
  have := hl.most
  have := hl.len
  omega
theorem not_VO {O : Od} (h : ¬ ∃ l, VO O l) : ∀ l, ¬ VO O l := fun l hl => h ⟨l, hl⟩
/-- A list without a place. -/
def woO (l : List Nat) (i : Nat) : List Nat := l.filter fun j => decide (j ≠ i)
theorem woO_not {l : List Nat} {i : Nat} (h : i ∉ l) : woO l i = l := List.filter_eq_self.2 fun j hj => decide_eq_true (fun e => h (by rw [← e]; exact hj))
theorem woO_mid {a b : List Nat} {i : Nat} (h : (a ++ i :: b).Nodup) : woO (a ++ i :: b) i = a ++ b := by
  have hn := List.nodup_append.1 h
  have h1 : woO a i = a := woO_not fun q => hn.2.2 i q i List.mem_cons_self rfl
  have h2 : woO b i = b := woO_not (List.nodup_cons.1 hn.2.1).1
  unfold woO at h1 h2 ⊢
  rw [List.filter_append, List.filter_cons_of_neg (by simp), h1, h2]
theorem woO_mem {l : List Nat} {i j : Nat} : j ∈ woO l i ↔ j ∈ l ∧ j ≠ i := by simp [woO]
theorem woO_nodup {l : List Nat} {i : Nat} (h : l.Nodup) : (woO l i).Nodup := h.filter _
theorem woO_self (l : List Nat) (i : Nat) : i ∉ woO l i := fun h => (woO_mem.1 h).2 rfl
theorem VO.wo {O : Od} {l : List Nat} (h : VO O l) (i : Nat) : VO (ofL O.pv.length (woO l i)) (woO l i) :=
  VO.of h.pos h.most (fun j hj => h.lt j (woO_mem.1 hj).1) (woO_nodup h.nodup)
theorem VO.touch {O : Od} {l : List Nat} (h : VO O l) {i : Nat} (hi : i < O.pv.length) : VO (ofL O.pv.length (i :: woO l i)) (i :: woO l i) :=
  VO.of h.pos h.most (fun j hj => by
    rcases List.mem_cons.1 hj with rfl | hj
    · exact hi
    · exact h.lt j (woO_mem.1 hj).1) (List.nodup_cons.2 ⟨woO_self l i, woO_nodup h.nodup⟩)
/-- What New answers. -/
def NwO (n : Int) (O : Od) (q : Int) : Prop := (q = 2 ∧ (n < 1 ∨ 16 < n) ∧ O = Od.zero) ∨ (q = 0 ∧ ∃ m : Nat, n = m ∧ 1 ≤ m ∧ m ≤ 16 ∧ O = ofL m [])
theorem NwO.ex (n : Int) : ∃ O q, NwO n O q := by
  by_cases h : n < 1 ∨ 16 < n
  · exact ⟨_, _, Or.inl ⟨rfl, h, rfl⟩⟩
  · exact ⟨_, _, Or.inr ⟨rfl, n.toNat, by omega, by omega, by omega, rfl⟩⟩
/-- What Touch answers. -/
def TcO (O : Od) (p : Int) (R : Od) (q : Int) : Prop :=
  (q = 8 ∧ (∀ l, ¬ VO O l) ∧ R = Od.zero) ∨ (∃ l, VO O l ∧ ((q = 2 ∧ (p < 0 ∨ (O.pv.length : Int) ≤ p) ∧ R = Od.zero) ∨ (∃ i : Nat, p = i ∧ i < O.pv.length ∧ q = 0 ∧ R = ofL O.pv.length (i :: woO l i))))
theorem TcO.ex (O : Od) (p : Int) : ∃ R q, TcO O p R q := by
  by_cases h : ∃ l, VO O l
  · obtain ⟨l, hl⟩ := h
    by_cases hp : p < 0 ∨ (O.pv.length : Int) ≤ p
    · exact ⟨_, _, Or.inr ⟨l, hl, Or.inl ⟨rfl, hp, rfl⟩⟩⟩
    · exact ⟨_, _, Or.inr ⟨l, hl, Or.inr ⟨p.toNat, by omega, by omega, rfl, rfl⟩⟩⟩
  · exact ⟨_, _, Or.inl ⟨rfl, not_VO h, rfl⟩⟩
/-- What Remove answers. -/
def RmO (O : Od) (p : Int) (R : Od) (q : Int) : Prop :=
  (q = 8 ∧ (∀ l, ¬ VO O l) ∧ R = Od.zero) ∨ (∃ l, VO O l ∧ ((q = 2 ∧ (p < 0 ∨ (O.pv.length : Int) ≤ p) ∧ R = Od.zero) ∨ (∃ i : Nat, p = i ∧ i < O.pv.length ∧ ((q = 6 ∧ i ∉ l ∧ R = Od.zero) ∨ (q = 0 ∧ i ∈ l ∧ R = ofL O.pv.length (woO l i))))))
theorem RmO.ex (O : Od) (p : Int) : ∃ R q, RmO O p R q := by
  by_cases h : ∃ l, VO O l
  · obtain ⟨l, hl⟩ := h
    by_cases hp : p < 0 ∨ (O.pv.length : Int) ≤ p
    · exact ⟨_, _, Or.inr ⟨l, hl, Or.inl ⟨rfl, hp, rfl⟩⟩⟩
    · by_cases hi : p.toNat ∈ l
      · exact ⟨_, _, Or.inr ⟨l, hl, Or.inr ⟨p.toNat, by omega, by omega, Or.inr ⟨rfl, hi, rfl⟩⟩⟩⟩
      · exact ⟨_, _, Or.inr ⟨l, hl, Or.inr ⟨p.toNat, by omega, by omega, Or.inl ⟨rfl, hi, rfl⟩⟩⟩⟩
  · exact ⟨_, _, Or.inl ⟨rfl, not_VO h, rfl⟩⟩
/-- What Last answers. -/
def LaO (O : Od) (p q : Int) : Prop :=
  (q = 8 ∧ (∀ l, ¬ VO O l) ∧ p = 0) ∨ (∃ l, VO O l ∧ ((q = 6 ∧ l = [] ∧ p = 0) ∨ (q = 0 ∧ l ≠ [] ∧ p = lstO (-1) l)))
theorem LaO.ex (O : Od) : ∃ p q, LaO O p q := by
  by_cases h : ∃ l, VO O l
  · obtain ⟨l, hl⟩ := h
    by_cases e : l = []
    · exact ⟨_, _, Or.inr ⟨l, hl, Or.inl ⟨rfl, e, rfl⟩⟩⟩
    · exact ⟨_, _, Or.inr ⟨l, hl, Or.inr ⟨rfl, e, rfl⟩⟩⟩
  · exact ⟨_, _, Or.inl ⟨rfl, not_VO h, rfl⟩⟩
/-- What List answers. -/
def LiO (O : Od) (m : List Nat) (q : Int) : Prop := (q = 8 ∧ (∀ l, ¬ VO O l) ∧ m = []) ∨ (q = 0 ∧ VO O m)
theorem LiO.ex (O : Od) : ∃ m q, LiO O m q := by
  by_cases h : ∃ l, VO O l
  · obtain ⟨l, hl⟩ := h
    exact ⟨_, _, Or.inr ⟨rfl, hl⟩⟩
  · exact ⟨_, _, Or.inl ⟨rfl, not_VO h, rfl⟩⟩
theorem TcO.of {O : Od} {l : List Nat} (h : VO O l) {i : Nat} (hi : i < O.pv.length) : TcO O i (ofL O.pv.length (i :: woO l i)) 0 := Or.inr ⟨l, h, Or.inr ⟨i, rfl, hi, rfl, rfl⟩⟩

/-- How orders lie. -/
def IsO (w : World) (v : Value) (O : Od) : Prop := ∃ a b, v = .agg #[a, b, .int .i64 O.hd, .int .i64 O.tl] ∧ IsR LI w a O.pv ∧ IsR LI w b O.nx
theorem IsO.below {w w' : World} {v : Value} {O : Od} (h : IsO w v O) (hb : Below w.heap.size w w') : IsO w' v O :=
  let ⟨a, b, e, h1, h2⟩ := h; ⟨a, b, e, h1.below hb, h2.below hb⟩
theorem IsO.alloc {w : World} {v : Value} {O : Od} (h : IsO w v O) (x : Obj) : IsO (w.alloc x) v O := h.below ((Below.refl _ _).alloc (Nat.le_refl _) _)
end Go.Proofs.Ytjhlpkkefdohjaa
