/-
  The reference of layer 13, walked: Great, In, Free.
-/
import Derived.Test.YtjhlpkkefdohjaaArD
namespace Go.Proofs.Ytjhlpkkefdohjaa
open Go.RowKit

theorem none_own (n : Nat) : ∀ k, (Value.slice none 0 0).ownBlock = some k → n ≤ k := fun k h => by cases h
/-- The free list as it is: it leads to -1 and has no place twice. -/
def FreeL (A : Ar) (l : List Nat) : Prop := Path A.nx A.fr l (-1) ∧ l.Nodup
theorem FreeL.uniq {A : Ar} {l l' : List Nat} (h : FreeL A l) (h' : FreeL A l') : l = l' := h.1.uniq h'.1
theorem Valid.freeL {A : Ar} {l : List Nat} (h : Valid A l) : FreeL A l := ⟨h.path, h.nodup⟩
theorem FreeL.valid {A : Ar} {l : List Nat} {k : Nat} (h : FreeL A l) (h1 : 1 ≤ A.nx.length) (h2 : A.nx.length ≤ 16) (h3 : A.us.length = A.nx.length) (hs : Seen A l k) (hk : A.us.length ≤ k) : Valid A l :=
  Run.valid ⟨h.1, h.2, fun i hi => by rw [(hs i (by have := h.1.lt i hi; omega)).1]; simp [hi]⟩ h1 h2 h3 hs hk
/-- How far Free has come. -/
def Way (A : Ar) (l : List Nat) (p : Int) : Prop := Path A.nx A.fr l p ∧ l.Nodup
theorem Way.out {A : Ar} {l l' : List Nat} {p : Int} (h : Way A l p) (hp : p ≠ -1) (hb : p < 0 ∨ (A.nx.length : Int) ≤ p) : ¬ FreeL A l' := fun hv => by
  obtain ⟨r, _, hr⟩ := h.1.rest hv.1
  cases r with
  | nil => exact hp hr
  | cons i r =>
    have := hr.1
    have := (List.getElem?_eq_some_iff.1 hr.2.choose_spec.1).1
    omega
theorem Way.twice {A : Ar} {l l' : List Nat} {i : Nat} (h : Way A l (i : Int)) (hi : i ∈ l) : ¬ FreeL A l' := fun hv => by
  obtain ⟨r, e, hr⟩ := h.1.rest hv.1
  cases r with
  | nil => have hr : (i : Int) = -1 := hr; omega
  | cons j r =>
    obtain rfl : i = j := by have := hr.1; omega
    have := hv.2
    rw [e, List.nodup_append] at this
    exact this.2.2 i hi i List.mem_cons_self rfl
theorem Way.step {A : Ar} {l : List Nat} {i : Nat} {x : Int} (h : Way A l (i : Int)) (hx : A.nx[i]? = some x) (hi : i ∉ l) : Way A (l ++ [i]) x :=
  ⟨h.1.snoc hx, by
    rw [List.nodup_append]
    exact ⟨h.2, by simp, fun a ha b hb e => by
      simp at hb
      subst hb e
      exact hi ha⟩⟩
/-- What Free answers. -/
def FrA (A : Ar) (r : Option (List Nat)) : Prop := (∃ l, r = some l ∧ FreeL A l) ∨ (r = none ∧ ∀ l, ¬ FreeL A l)
theorem FrA.ex (A : Ar) : ∃ r, FrA A r := by
  by_cases h : ∃ l, FreeL A l
  · obtain ⟨l, hl⟩ := h
    exact ⟨_, Or.inl ⟨l, rfl, hl⟩⟩
  · exact ⟨_, Or.inr ⟨rfl, fun l hl => h ⟨l, hl⟩⟩⟩
theorem FrA.no {A : Ar} {r : Option (List Nat)} (h : FrA A r) (hn : ∀ l, ¬ FreeL A l) : r = none := by
  rcases h with ⟨l, _, hl⟩ | ⟨h, _⟩
  · exact absurd hl (hn l)
  · exact h
theorem FrA.yes {A : Ar} {r : Option (List Nat)} {l : List Nat} (h : FrA A r) (hl : FreeL A l) : r = some l := by
  rcases h with ⟨l', rfl, hl'⟩ | ⟨_, h⟩
  · rw [hl.uniq hl']
  · exact absurd hl (h l)
/-- Places as numbers. -/
def nums (l : List Nat) : List Int := l.map fun i : Nat => (i : Int)
theorem nums_len (l : List Nat) : (nums l).length = l.length := by simp [nums]
theorem nums_mem {l : List Nat} {i : Nat} : (i : Int) ∈ nums l ↔ i ∈ l := by
  simp only [nums, List.mem_map]
  exact ⟨fun ⟨j, hj, e⟩ => by have : j = i := by omega
                              rw [← this]; exact hj, fun h => ⟨i, h, rfl⟩⟩
theorem nums_snoc (l : List Nat) (i : Nat) : nums (l ++ [i]) = nums l ++ [(i : Int)] := by simp [nums]

def GrA (A : Ar) : Prop := 100 < A.nx.length ∨ 100 < A.us.length
set_option maxRecDepth 100000 in
set_option maxHeartbeats 6400000 in
theorem rin_is {v : Value} {xs : List Int} {x : Int} {b : Bool} (w : World) (h1 : IsR LI w v xs) (hb : b = true ↔ x ∈ xs) : Calls Try.prog 25 #[v, .int .i64 x] w fun e w' => e = .returned (.bool b) ∧ Below w.heap.size w w' := by
  obtain ⟨a1, c1, rfl, hr1⟩ := id h1
  have m1 := hr1.most; have r1 := hr1.room; have H1 := Lib.hid h1; have HB := Lib.hid hb
  clear hr1 h1 hb
  go_enter Try.func25, Try.ntmps25
  go_wp2_with fail
  go_loopw [5] (fun i wr => ∃ k : Nat, k ≤ xs.length ∧ i = .int .i64 k ∧ Hid (∀ j : Nat, j < k → xs[j]? ≠ some x) ∧ wr = w) (fun i _ => xs.length - (intOf i).toNat)
  case atStart => exact ⟨0, Nat.zero_le _, rfl, Lib.hid (fun _ h => absurd h (Nat.not_lt_zero _)), rfl⟩
  case round =>
    obtain ⟨k, hk, rfl, HE, rfl⟩ := hrel
    by_cases hlt : k < xs.length
    case pos =>
      obtain ⟨y, hy⟩ : ∃ y, xs[k]? = some y := ⟨_, List.getElem?_eq_getElem hlt⟩
      obtain ⟨b1, o1, rfl, f1⟩ := H1.out.getI hy
      have z1 := lt_of_cell f1
      have i0 : (0 : Int) ≤ (k : Int) := (by omega); have i1 : (k : Int) < (xs.length : Int) := (by omega)
      by_cases he : y = x
      case pos =>
        have HX := Lib.hid (show true = b from (HB.out.2 (by rw [← he]; exact List.mem_of_getElem? hy)).symm)
        have d1 : (y == x) = true := by rw [beq_iff_eq]; exact he
        clear he hy HE
        go_wp2_with fail
        go_returns
        exact ⟨ret_b12 HX.out, Below.refl _ _⟩
      case neg =>
        have HE2 : Hid (∀ j : Nat, j < k + 1 → xs[j]? ≠ some x) := Lib.hid (fun j hj q => by
          rcases Nat.lt_or_ge j k with g | g
          · exact HE.out j g q
          · obtain rfl : j = k := by omega
            rw [hy] at q
            exact he (by cases q; rfl))
        have d1 : (y == x) = false := by rw [beq_eq_false_iff_ne]; exact he
        clear he hy HE
        go_wp2_with fail
        go_roundw
        case rel => exact ⟨k + 1, by omega, by go_num, HE2, trivial⟩
        case measure => simp [intOf]; omega
    case neg =>
      have HX := Lib.hid (show false = b from (bool_eq12 HB.out (c := false) ⟨fun h => (Bool.false_ne_true h).elim, fun q => by
        obtain ⟨j, hj⟩ := List.getElem?_of_mem q
        exact absurd hj (HE.out j (by have := (List.getElem?_eq_some_iff.1 hj).1; omega))⟩).symm)
      clear HE
      have hd : decide ((k : Int) < (xs.length : Int)) = false := decide_eq_false (by omega)
      go_wp2_with fail
      go_returns
      exact ⟨ret_b12 HX.out, Below.refl _ _⟩

end Go.Proofs.Ytjhlpkkefdohjaa
