/-
  The reference of layer 13, walked: Great, In, Free.
-/
import Derived.Test.YtepimljjbmoojaaArD
namespace Go.Proofs.Ytepimljjbmoojaa
open Go.RowKit

theorem none_own (n : Nat) : ∀ k, (Value.slice none 0 0).ownBlock = some k → n ≤ k := fun k h => by cases h
/-- The free list as it is: it leads to -1 and has no place twice. -/
def FreeL (A : Ar) (l : List Nat) : Prop := Path A.nx A.fr l (-1) ∧ l.Nodup
theorem FreeL.uniq {A : Ar} {l l' : List Nat} (h : FreeL A l) (h' : FreeL A l') : l = l' := h.1.uniq h'.1
theorem Valid.freeL {A : Ar} {l : List Nat} (h : Valid A l) : FreeL A l := ⟨h.path, h.nodup⟩
theorem FreeL.valid {A : Ar} {l : List Nat} {k : Nat} (h : FreeL A l) (h1 : 1 ≤ A.nx.length) (h2 : A.nx.length ≤ 16) (h3 : A.us.length = A.nx.length) (hs : Seen A l k) (hk : A.us.length ≤ k) : Valid A l :=
  Run.valid ⟨h.1, h.2, fun i hi => by rw [(hs i (by have := h.1.lt i hi; omega)).1]; simp [hi]⟩ h1 h2 h3 hs hk
/-- How far Free has come. -/
def Way (A : Ar) (l : List Nat) (p : Int) : Prop := Path A.nx A.fr l p ∧ l.Nodup
theorem Way.out {A : Ar} {l l' : List Nat} {p : Int} (h : Way A l p) (hp : p ≠ -1) (hb : p < 0 ∨ (A.nx.length : Int) ≤ p) : ¬ FreeL A l' := fun hv => by
  obtain ⟨r, _, hr⟩ := h.1.rest hv.1
  cases r with
  | nil => exact hp hr
  | cons i r =>
    have := hr.1
    have := (List.getElem?_eq_some_iff.1 hr.2.choose_spec.1).1
    omega
theorem Way.twice {A : Ar} {l l' : List Nat} {i : Nat} (h : Way A l (i : Int)) (hi : i ∈ l) : ¬ FreeL A l' := fun hv => by
  obtain ⟨r, e, hr⟩ := h.1.rest hv.1
  cases r with
  | nil => have hr : (i : Int) = -1 := hr; omega
  | cons j r =>
    obtain rfl : i = j := by have := hr.1; omega
    have := hv.2
    rw [e, List.nodup_append] at this
    exact this.2.2 i hi i List.mem_cons_self rfl
theorem Way.step {A : Ar} {l : List Nat} {i : Nat} {x : Int} (h : Way A l (i : Int)) (hx : A.nx[i]? = some x) (hi : i ∉ l) : Way A (l ++ [i]) x :=
  ⟨h.1.snoc hx, by
    rw [List.nodup_append]
    exact ⟨h.2, by simp, fun a ha b hb e => by
      simp at hb
      subst hb e
      exact hi ha⟩⟩
/-- What Free answers. -/
def FrA (A : Ar) (r : Option (List Nat)) : Prop := (∃ l, r = some l ∧ FreeL A l) ∨ (r = none ∧ ∀ l, ¬ FreeL A l)
theorem FrA.ex (A : Ar) : ∃ r, FrA A r := by
  by_cases h : ∃ l, FreeL A l
  · obtain ⟨l, hl⟩ := h
    exact ⟨_, Or.inl ⟨l, rfl, hl⟩⟩
  · exact ⟨_, Or.inr ⟨rfl, fun l hl => h ⟨l, hl⟩⟩⟩
theorem FrA.no {A : Ar} {r : Option (List Nat)} (h : FrA A r) (hn : ∀ l, ¬ FreeL A l) : r = none := by
  rcases h with ⟨l, _, hl⟩ | ⟨h, _⟩
  · exact absurd hl (hn l)
  · exact h
theorem FrA.yes {A : Ar} {r : Option (List Nat)} {l : List Nat} (h : FrA A r) (hl : FreeL A l) : r = some l := by
  rcases h with ⟨l', rfl, hl'⟩ | ⟨_, h⟩
  · rw [hl.uniq hl']
  · exact absurd hl (h l)
/-- Places as numbers. -/
def nums (l : List Nat) : List Int := l.map fun i : Nat => (i : Int)
theorem nums_len (l : List Nat) : (nums l).length = l.length := by simp [nums]
theorem nums_mem {l : List Nat} {i : Nat} : (i : Int) ∈ nums l ↔ i ∈ l := by
  simp only [nums, List.mem_map]
  exact ⟨fun ⟨j, hj, e⟩ => by have : j = i := by omega
                              rw [← this]; exact hj, fun h => ⟨i, h, rfl⟩⟩
theorem nums_snoc (l : List Nat) (i : Nat) : nums (l ++ [i]) = nums l ++ [(i : Int)] := by simp [nums]

set_option maxRecDepth 100000 in
set_option maxHeartbeats 6400000 in
theorem rgreat_a {v : Value} {A : Ar} (h : 100 < A.nx.length) (w : World) (h1 : IsA w v A) : Calls Try.prog 8 #[v] w fun e w' => e = .returned (.bool true) ∧ Below w.heap.size w w' := by
  have HA := Lib.hid h1
  obtain ⟨v1, v2, rfl, g1, g2⟩ := id h1
  obtain ⟨a1, c1, rfl, hr1⟩ := id g1; obtain ⟨a2, c2, rfl, hr2⟩ := id g2
  have m1 := hr1.most; have r1 := hr1.room; have m2 := hr2.most; have r2 := hr2.room; have H1 := Lib.hid g1; have H2 := Lib.hid g2
  clear hr1 hr2 g1 g2 h1
  have d0 : decide (100 < (A.nx.length : Int)) = true := decide_eq_true (by omega)
  clear HA H1 H2 h
  go_enter Try.func8, Try.ntmps8
  go_upto_region 1 with fail
  refine F_gen (F := fun W => Code.wp _ _ _ _ W) (J := fun W => Box W (w.heap.size) ([.slice a1 A.nx.length c1, .slice a2 A.us.length c2, .int .i64 A.fr]) ∧ Below w.heap.size w W) (And.intro (Box.newc rfl rfl) (by go_grown)) ?_
  intro w0 ⟨e_a, hB0⟩
  have hs0 := hB0.size
  have x_a0 := e_a; clear e_a
  have ca := (x_a0).c 0 _ rfl
  have za := (x_a0).lt
  have cb := (x_a0).c 1 _ rfl
  have zb := (x_a0).lt
  go_wp2_with fail
  go_returns
  exact ⟨rfl, hB0⟩

set_option maxRecDepth 100000 in
set_option maxHeartbeats 6400000 in
theorem rgreat_b {v : Value} {A : Ar} (h : A.nx.length ≤ 100) (h2 : 100 < A.us.length) (w : World) (h1 : IsA w v A) : Calls Try.prog 8 #[v] w fun e w' => e = .returned (.bool true) ∧ Below w.heap.size w w' := by
  have HA := Lib.hid h1
  obtain ⟨v1, v2, rfl, g1, g2⟩ := id h1
  obtain ⟨a1, c1, rfl, hr1⟩ := id g1; obtain ⟨a2, c2, rfl, hr2⟩ := id g2
  have m1 := hr1.most; have r1 := hr1.room; have m2 := hr2.most; have r2 := hr2.room; have H1 := Lib.hid g1; have H2 := Lib.hid g2
  clear hr1 hr2 g1 g2 h1
  have d0 : decide (100 < (A.nx.length : Int)) = false := decide_eq_false (by omega)
  have d1 : decide (100 < (A.us.length : Int)) = true := decide_eq_true (by omega)
  clear HA H1 H2 h h2
  go_enter Try.func8, Try.ntmps8
  go_upto_region 1 with fail
  refine F_gen (F := fun W => Code.wp _ _ _ _ W) (J := fun W => Box W (w.heap.size) ([.slice a1 A.nx.length c1, .slice a2 A.us.length c2, .int .i64 A.fr]) ∧ Below w.heap.size w W) (And.intro (Box.newc rfl rfl) (by go_grown)) ?_
  intro w0 ⟨e_a, hB0⟩
  have hs0 := hB0.size
  have x_a0 := e_a; clear e_a
  have ca := (x_a0).c 0 _ rfl
  have za := (x_a0).lt
  have cb := (x_a0).c 1 _ rfl
  have zb := (x_a0).lt
  go_wp2_with fail
  go_returns
  exact ⟨rfl, hB0⟩

set_option maxRecDepth 100000 in
set_option maxHeartbeats 6400000 in
theorem rgreat_c {v : Value} {A : Ar} (h : A.nx.length ≤ 100) (h2 : A.us.length ≤ 100) (w : World) (h1 : IsA w v A) : Calls Try.prog 8 #[v] w fun e w' => e = .returned (.bool false) ∧ Below w.heap.size w w' := by
  have HA := Lib.hid h1
  obtain ⟨v1, v2, rfl, g1, g2⟩ := id h1
  obtain ⟨a1, c1, rfl, hr1⟩ := id g1; obtain ⟨a2, c2, rfl, hr2⟩ := id g2
  have m1 := hr1.most; have r1 := hr1.room; have m2 := hr2.most; have r2 := hr2.room; have H1 := Lib.hid g1; have H2 := Lib.hid g2
  clear hr1 hr2 g1 g2 h1
  have d0 : decide (100 < (A.nx.length : Int)) = false := decide_eq_false (by omega)
  have d1 : decide (100 < (A.us.length : Int)) = false := decide_eq_false (by omega)
  clear HA H1 H2 h h2
  go_enter Try.func8, Try.ntmps8
  go_upto_region 1 with fail
  refine F_gen (F := fun W => Code.wp _ _ _ _ W) (J := fun W => Box W (w.heap.size) ([.slice a1 A.nx.length c1, .slice a2 A.us.length c2, .int .i64 A.fr]) ∧ Below w.heap.size w W) (And.intro (Box.newc rfl rfl) (by go_grown)) ?_
  intro w0 ⟨e_a, hB0⟩
  have hs0 := hB0.size
  have x_a0 := e_a; clear e_a
  have ca := (x_a0).c 0 _ rfl
  have za := (x_a0).lt
  have cb := (x_a0).c 1 _ rfl
  have zb := (x_a0).lt
  go_wp2_with fail
  go_returns
  exact ⟨rfl, hB0⟩

def GrA (A : Ar) : Prop := 100 < A.nx.length ∨ 100 < A.us.length
theorem rgreat_is {v : Value} {A : Ar} {b : Bool} (w : World) (h1 : IsA w v A) (hb : b = true ↔ GrA A) : Calls Try.prog 8 #[v] w fun e w' => e = .returned (.bool b) ∧ Below w.heap.size w w' := by
  by_cases h : 100 < A.nx.length
  · rw [hb.2 (Or.inl h)]
    exact rgreat_a h w h1
  · by_cases h2 : 100 < A.us.length
    · rw [hb.2 (Or.inr h2)]
      exact rgreat_b (by omega) h2 w h1
    · rw [bool_eq12 hb (c := false) ⟨fun h => (Bool.false_ne_true h).elim, fun q => by rcases q with q | q <;> omega⟩]
      exact rgreat_c (by omega) (by omega) w h1

set_option maxRecDepth 100000 in
set_option maxHeartbeats 6400000 in
theorem rin_is {v : Value} {xs : List Int} {x : Int} {b : Bool} (w : World) (h1 : IsR LI w v xs) (hb : b = true ↔ x ∈ xs) : Calls Try.prog 25 #[v, .int .i64 x] w fun e w' => e = .returned (.bool b) ∧ Below w.heap.size w w' := by
  obtain ⟨a1, c1, rfl, hr1⟩ := id h1
  have m1 := hr1.most; have r1 := hr1.room; have H1 := Lib.hid h1; have HB := Lib.hid hb
  clear hr1 h1 hb
  go_enter Try.func25, Try.ntmps25
  go_wp2_with fail
  go_loopw [5] (fun i wr => ∃ k : Nat, k ≤ xs.length ∧ i = .int .i64 k ∧ Hid (∀ j : Nat, j < k → xs[j]? ≠ some x) ∧ wr = w) (fun i _ => xs.length - (intOf i).toNat)
  case atStart => exact ⟨0, Nat.zero_le _, rfl, Lib.hid (fun _ h => absurd h (Nat.not_lt_zero _)), rfl⟩
  case round =>
    obtain ⟨k, hk, rfl, HE, rfl⟩ := hrel
    by_cases hlt : k < xs.length
    case pos =>
      obtain ⟨y, hy⟩ : ∃ y, xs[k]? = some y := ⟨_, List.getElem?_eq_getElem hlt⟩
      obtain ⟨b1, o1, rfl, f1⟩ := H1.out.getI hy
      have z1 := lt_of_cell f1
      have i0 : (0 : Int) ≤ (k : Int) := (by omega); have i1 : (k : Int) < (xs.length : Int) := (by omega)
      by_cases he : y = x
      case pos =>
        have HX := Lib.hid (show true = b from (HB.out.2 (by rw [← he]; exact List.mem_of_getElem? hy)).symm)
        have d1 : (y == x) = true := by rw [beq_iff_eq]; exact he
        clear he hy HE
        go_wp2_with fail
        go_returns
        exact ⟨ret_b12 HX.out, Below.refl _ _⟩
      case neg =>
        have HE2 : Hid (∀ j : Nat, j < k + 1 → xs[j]? ≠ some x) := Lib.hid (fun j hj q => by
          rcases Nat.lt_or_ge j k with g | g
          · exact HE.out j g q
          · obtain rfl : j = k := by omega
            rw [hy] at q
            exact he (by cases q; rfl))
        have d1 : (y == x) = false := by rw [beq_eq_false_iff_ne]; exact he
        clear he hy HE
        go_wp2_with fail
        go_roundw
        case rel => exact ⟨k + 1, by omega, by go_num, HE2, trivial⟩
        case measure => simp [intOf]; omega
    case neg =>
      have HX := Lib.hid (show false = b from (bool_eq12 HB.out (c := false) ⟨fun h => (Bool.false_ne_true h).elim, fun q => by
        obtain ⟨j, hj⟩ := List.getElem?_of_mem q
        exact absurd hj (HE.out j (by have := (List.getElem?_eq_some_iff.1 hj).1; omega))⟩).symm)
      clear HE
      have hd : decide ((k : Int) < (xs.length : Int)) = false := decide_eq_false (by omega)
      go_wp2_with fail
      go_returns
      exact ⟨ret_b12 HX.out, Below.refl _ _⟩

set_option maxRecDepth 100000 in
set_option maxHeartbeats 6400000 in
theorem rfree_is {v : Value} {A : Ar} {r : Option (List Nat)} (w : World) (h1 : IsA w v A) (hm : A.nx.length ≤ 16) (hr : FrA A r) : Calls Try.prog 23 #[v] w fun e w' => ∃ u, e = .returned (.tuple #[u, .bool r.isSome]) ∧ IsR LI w' u (nums (r.getD [])) ∧ (∀ k, u.ownBlock = some k → w.heap.size ≤ k) ∧ Below w.heap.size w w' := by
  have HA := Lib.hid h1
  obtain ⟨v1, v2, rfl, g1, g2⟩ := id h1
  obtain ⟨a1, c1, rfl, hr1⟩ := id g1; obtain ⟨a2, c2, rfl, hr2⟩ := id g2
  have m1 := hr1.most; have r1 := hr1.room; have m2 := hr2.most; have r2 := hr2.room; have H1 := Lib.hid g1; have H2 := Lib.hid g2
  clear hr1 hr2 g1 g2 h1
  obtain ⟨n, hn⟩ : ∃ n, A.nx.length = n := ⟨_, rfl⟩
  rw [hn] at hm r1 H1 HA ⊢
  have HN := Lib.hid hn; have HR := Lib.hid hr; clear hn hr
  have IN := fun (W : World) (u : Value) (l : List Nat) (i : Nat) (b : Bool) (h : IsR LI W u (nums l)) (hb : b = true ↔ i ∈ l) => rin_is (x := (i : Int)) (b := b) W h (hb.trans nums_mem.symm)
  obtain ⟨ti, hin, hz0, hz1, hz2⟩ := info_parts info_in
  go_enter Try.func23, Try.ntmps23
  go_upto_region 1 with fail
  refine F_gen (F := fun W => Code.wp _ _ _ _ W) (J := fun W => Box W (w.heap.size) ([.slice a1 n c1, .slice a2 A.us.length c2, .int .i64 A.fr]) ∧ Below w.heap.size w W) (And.intro (Box.newc rfl rfl) (by go_grown)) ?_
  intro w0 ⟨e_a, hB0⟩
  have hs0 := hB0.size
  have x_a0 := e_a; clear e_a
  have lo := x_a0.lt
  have ca := (x_a0).c 2 _ rfl
  have za := (x_a0).lt
  go_wp2_with fail
  clear ca za
  go_loopg [4, 5] n (fun k p4 p5 wr => ∃ (l : List Nat) (p : Int), p5 = .int .i64 p ∧ k = n - l.length ∧ Hid (Way A l p) ∧ Hid (wr.ownsRow (w.heap.size + 1) 3 1 p4 l.length (flatR LI (nums l))) ∧ Box wr w.heap.size [.slice a1 n c1, .slice a2 A.us.length c2, .int .i64 A.fr] ∧ Below w.heap.size w wr)
  case atStart => exact ⟨[], A.fr, rfl, rfl, Lib.hid ⟨rfl, List.nodup_nil⟩, Lib.hid ownR_none, x_a0, hB0⟩
  case round =>
    clear x_a0 hB0 hs0 lo
    obtain ⟨l, p, rfl, rfl, HW, HO, x_a, hB⟩ := hrel
    have hs := hB.size; have za := x_a.lt; have ca := x_a.c 0 _ rfl
    obtain ⟨pa, pc, rfl⟩ := own_slR HO.out
    have HLn := Lib.hid (show l.length ≤ n by have := nodup_le n l HW.out.2 (fun i hi => by have := HW.out.1.lt i hi; rw [HN.out] at this; exact this); exact this)
    by_cases hp1 : p = -1
    case pos =>
      subst hp1
      have HX := Lib.hid (HR.out.yes HW.out)
      have HI : Hid (IsR LI wr (.slice pa l.length pc) (nums l)) := Lib.hid (IsR.own HO.out rfl (nums_len l).symm); have HK := Lib.hid (ownR_block HO.out)
      clear HW HO
      go_wp2_with fail
      go_returns
      rw [HX.out]
      exact ⟨_, rfl, HI.out, (fun q e => by have := HK.out q e; omega), hB⟩
    case neg =>
      have d0 : (p != -1) = true := by rw [bne_iff_ne]; exact hp1
      by_cases hlo : p < 0
      case pos =>
        have HX := Lib.hid (HR.out.no fun l' => HW.out.out hp1 (Or.inl hlo))
        have d1 : decide (p < 0) = true := decide_eq_true hlo
        clear HW HO hp1
        go_wp2_with fail
        go_returns
        rw [HX.out]
        exact ⟨_, rfl, IsR.none, none_own _, hB⟩
      case neg =>
        have d1 : decide (p < 0) = false := decide_eq_false hlo
        by_cases hhi : (n : Int) ≤ p
        case pos =>
          have HX := Lib.hid (HR.out.no fun l' => HW.out.out hp1 (Or.inr (by rw [HN.out]; exact hhi)))
          have d2 : decide ((n : Int) ≤ p) = true := decide_eq_true hhi
          clear HW HO hp1
          go_wp2_with fail
          go_returns
          rw [HX.out]
          exact ⟨_, rfl, IsR.none, none_own _, hB⟩
        case neg =>
          have d2 : decide ((n : Int) ≤ p) = false := decide_eq_false hhi
          obtain ⟨i, rfl⟩ : ∃ i : Nat, p = (i : Int) := ⟨p.toNat, by omega⟩
          have hin : i < n := by omega
          obtain ⟨b, hb⟩ := bool_of (i ∈ l)
          have HI : Hid (IsR LI wr (.slice pa l.length pc) (nums l)) := Lib.hid (IsR.own HO.out rfl (nums_len l).symm)
          obtain ⟨x, hx⟩ : ∃ x, A.nx[i]? = some x := ⟨_, List.getElem?_eq_getElem (by rw [HN.out]; exact hin)⟩
          obtain ⟨b1, o1, rfl, e1⟩ := H1.out.getI hx
          have E1 := Lib.hid e1; clear e1
          go_wp2_with fail
          refine (IN _ _ l i b HI.out hb).mono ?_
          rintro e w2 ⟨rfl, hb2⟩
          have x_a2 := Box.below x_a hb2; have hB2 := below_thru hB hb2; have hs2 := hB2.size; have HO2 := Lib.hid (ownR_below HO.out hb2)
          clear x_a hB hb2 hs ca za HO HI d0 d1 d2
          cases b with
          | true =>
            have HX := Lib.hid (HR.out.no fun l' => HW.out.twice (hb.1 rfl))
            clear HW HO2 hp1 hb hx
            go_wp2_with fail
            go_returns
            rw [HX.out]
            exact ⟨_, rfl, IsR.none, none_own _, hB2⟩
          | false =>
            have hil : i ∉ l := fun q => Bool.false_ne_true (hb.2 q)
            have HW2 := Lib.hid (HW.out.step hx hil)
            have HG := Lib.hid (show n - (l ++ [i]).length < n - l.length from by
              have := nodup_le n (l ++ [i]) HW2.out.2 (fun j hj => by have := HW2.out.1.lt j hj; rw [HN.out] at this; exact this)
              rw [List.length_append, List.length_singleton] at this ⊢
              omega)
            clear HW hp1 hb hx hil hin
            have ltz := x_a2.lt
            have LX : IsR LI (w2.alloc (.cells #[.int .i64 (i : Int)] 3)) (.slice (some ⟨w2.heap.size, 0, none⟩) 1 1) [(i : Int)] := IsR.built [(i : Int)] rfl rfl rfl rfl (show 1 ≤ 1000 by decide)
            have LO := ownR_below HO2.out ((Below.refl _ _).alloc (Nat.le_refl _) (.cells #[.int .i64 (i : Int)] 3))
            have HL2 := HLn.out
            go_upto_region 4 with (at_builtin; refine wpList_append_rows rfl LI _ _ 22 rfl (w.heap.size + 1) 3 ti (.int .i64 0) 1 8 rfl Try.underlying22 hin hz0 hz1 hz2 rfl _ l.length _ rfl LO _ [(i : Int)] rfl LX (by have := HLn.out; unfold maxLen; simp; omega) (by have := HLn.out; simp; omega) (by simp; omega) ?_; intro v40 w40 own4 gr4)
            have hKB := (Below.refl (w.heap.size + 1) _).grown gr4 (by simp; omega) (ownR_block LO)
            have x_a3 : Box w40 w.heap.size _ := Box.keep12 (x_a2.alloc (.cells #[.int .i64 (i : Int)] 3)) hKB (by omega)
            have hB3 : Below w.heap.size w w40 := (hB2.alloc (by omega) (.cells #[.int .i64 (i : Int)] 3)).trans (hKB.mono (by omega))
            have HO3 : Hid (w40.ownsRow (w.heap.size + 1) 3 1 v40 (l ++ [i]).length (flatR LI (nums (l ++ [i])))) := Lib.hid (by
              rw [nums_snoc, flatR_app, List.length_append]
              exact own4)
            clear own4 gr4 hKB LO LX HO2 x_a2 hB2 hs2 ltz HL2
            have hs3 := hB3.size
            have f1 := cell_below hB3 E1.out; have z1 := lt_of_cell f1; have ca := x_a3.c 0 _ rfl; have za := x_a3.lt; have i0 : (0 : Int) ≤ (i : Int) := (by omega); have i1 : (i : Int) < (n : Int) := (by omega)
            go_wp2_with fail
            go_roundg (n - (l ++ [i]).length)
            case measure => exact HG.out
            case rel => exact ⟨_, x, rfl, rfl, HW2, HO3, x_a3, hB3⟩


end Go.Proofs.Ytepimljjbmoojaa
