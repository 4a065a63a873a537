/-
  The reference of layer 2, walked: merged ticks, each tick of the second list put in its place.
-/
import Derived.Test.YtdalbngfhinadaaClockM
import Derived.Test.YtdalbngfhinadaaSlicesB
import Derived.IntWalk
namespace Go.Proofs.Ytdalbngfhinadaa
open Go.RowKit

theorem rising_is (at0 : Option Addr) (cap : Nat) (xs : List Int) (b : Bool) (h : Hid (risB xs = b)) (w : World) (hi : Ints w .u64 at0 cap xs) :
    Calls Try.prog 25 #[.slice at0 xs.length cap] w fun e w' => e = .returned (.bool b) ∧ ∃ n, w' = w.drewN n := by
  have := rising_any at0 cap xs w hi
  rw [h.out] at this
  exact this

/-- Where a tick is put. -/
def insAt (l : List Int) (y : Int) : Nat → Nat
  | 0 => 0
  | k + 1 => if y < nth l k then insAt l y k else k + 1
theorem insAt_le (l : List Int) (y : Int) (k : Nat) : insAt l y k ≤ k := by
  induction k with
  | zero => exact Nat.le_refl _
  | succ k ih => unfold insAt; split <;> omega
theorem insAt_ge (l : List Int) (y : Int) (k : Nat) : ∀ i, insAt l y k ≤ i → i < k → y < nth l i := by
  induction k with
  | zero => intro i _ h; omega
  | succ k ih =>
    intro i h1 h2
    unfold insAt at h1
    split at h1
    · rename_i hy
      rcases Nat.lt_or_ge i k with q | q
      · exact ih i h1 q
      · obtain rfl : i = k := by omega
        exact hy
    · omega
theorem insAt_lt (l : List Int) (y : Int) (k : Nat) : ∀ p, insAt l y k = p + 1 → nth l p ≤ y := by
  induction k with
  | zero => intro p h; cases h
  | succ k ih =>
    intro p h
    unfold insAt at h
    split at h
    · exact ih p h
    · rename_i hy
      obtain rfl : p = k := by omega
      omega

def insR (l : List Int) (y : Int) : List Int := l.take (insAt l y l.length) ++ y :: l.drop (insAt l y l.length)
theorem insR_len (l : List Int) (y : Int) : (insR l y).length = l.length + 1 := by
  have := insAt_le l y l.length
  unfold insR
  simp
  omega
theorem insR_perm (l : List Int) (y : Int) : (insR l y).Perm (l ++ [y]) := by
  unfold insR
  refine List.perm_middle.trans ?_
  rw [List.take_append_drop]
  exact (List.perm_append_singleton y l).symm

theorem ris_iff (l : List Int) : risB l = true ↔ l.Pairwise (· ≤ ·) := by
  unfold risB
  rw [decide_eq_true_iff, List.pairwise_iff_getElem]
  have hn : ∀ i (h : i < l.length), nth l i = l[i] := fun i h => by
    unfold nth
    rw [List.getD_eq_getElem?_getD, List.getElem?_eq_getElem h]
    rfl
  constructor
  · intro h i j hi hj hij
    rw [← hn i hi, ← hn j hj]
    clear hn
    induction j with
    | zero => omega
    | succ j ih =>
      have h1 := h j (by omega) hj
      rcases Nat.lt_or_ge i j with q | q
      · exact Int.le_trans (ih (by omega) q) h1
      · obtain rfl : i = j := by omega
        exact h1
  · intro h i hi hj
    rw [hn i hi, hn (i + 1) hj]
    exact h i (i + 1) hi hj (by omega)

theorem nth_get {l : List Int} {i : Nat} (h : i < l.length) : nth l i = l[i] := by
  unfold nth
  rw [List.getD_eq_getElem?_getD, List.getElem?_eq_getElem h]
  rfl
theorem insR_sorted (l : List Int) (y : Int) (h : l.Pairwise (· ≤ ·)) : (insR l y).Pairwise (· ≤ ·) := by
  have hp := insAt_le l y l.length
  have hge := insAt_ge l y l.length
  have hlt := insAt_lt l y l.length
  unfold insR
  obtain ⟨p, hpe⟩ : ∃ p, insAt l y l.length = p := ⟨_, rfl⟩
  rw [hpe] at hp hge hlt ⊢
  rw [List.pairwise_append]
  refine ⟨h.sublist (List.take_sublist _ _), ?_, ?_⟩
  · rw [List.pairwise_cons]
    refine ⟨fun z hz => ?_, h.sublist (List.drop_sublist _ _)⟩
    obtain ⟨i, hi, rfl⟩ := List.mem_iff_getElem.1 hz
    rw [List.getElem_drop, ← nth_get]
    simp at hi
    exact Int.le_of_lt (hge (p + i) (by omega) (by omega))
  · intro a ha b hb
    obtain ⟨i, hi, rfl⟩ := List.mem_iff_getElem.1 ha
    simp at hi
    rw [List.getElem_take]
    have hr : ∀ i j (hi : i < l.length) (hj : j < l.length), i ≤ j → l[i] ≤ l[j] := fun i j hi hj hij => by
      rcases Nat.lt_or_ge i j with q | q
      · exact (List.pairwise_iff_getElem.1 h) i j hi hj q
      · obtain rfl : i = j := by omega
        exact Int.le_refl _
    have hy : l[i]'(by omega) ≤ y := by
      obtain ⟨q, rfl⟩ : ∃ q, p = q + 1 := ⟨p - 1, by omega⟩
      have h2 := hlt q rfl
      rw [nth_get (by omega)] at h2
      exact Int.le_trans (hr i q (by omega) (by omega) (by omega)) h2
    rcases List.mem_cons.1 hb with rfl | hb
    · exact hy
    · obtain ⟨j, hj, rfl⟩ := List.mem_iff_getElem.1 hb
      simp at hj
      rw [List.getElem_drop]
      exact hr i (p + j) (by omega) (by omega) (by omega)

def insAll (l : List Int) : List Int → List Int
  | [] => l
  | y :: ys => insAll (insR l y) ys
theorem insAll_snoc (l ys : List Int) (y : Int) : insAll l (ys ++ [y]) = insR (insAll l ys) y := by
  induction ys generalizing l with
  | nil => rfl
  | cons z ys ih => exact ih _
theorem insAll_len (l ys : List Int) : (insAll l ys).length = l.length + ys.length := by
  induction ys generalizing l with
  | nil => rfl
  | cons z ys ih => simp [insAll, ih, insR_len]; omega
theorem insAll_perm (l ys : List Int) : (insAll l ys).Perm (l ++ ys) := by
  induction ys generalizing l with
  | nil => simp [insAll]
  | cons z ys ih =>
    refine (ih _).trans ?_
    refine ((insR_perm l z).append_right ys).trans ?_
    simp
theorem insAll_sorted (l ys : List Int) (h : l.Pairwise (· ≤ ·)) : (insAll l ys).Pairwise (· ≤ ·) := by
  induction ys generalizing l with
  | nil => exact h
  | cons z ys ih => exact ih _ (insR_sorted l z h)

theorem mg_perm (xs ys : List Int) : (mg xs ys).Perm (xs ++ ys) := List.merge_perm_append _
theorem mg_sorted (xs ys : List Int) (h1 : xs.Pairwise (· ≤ ·)) (h2 : ys.Pairwise (· ≤ ·)) : (mg xs ys).Pairwise (· ≤ ·) := by
  have := List.pairwise_merge (le := fun a b : Int => decide (a ≤ b)) (by simp; omega) (by simp; omega) xs ys (by simpa using h1) (by simpa using h2)
  unfold mg
  simpa using this
theorem sorted_unique {l m : List Int} (hp : l.Perm m) (h1 : l.Pairwise (· ≤ ·)) (h2 : m.Pairwise (· ≤ ·)) : l = m :=
  List.Perm.eq_of_pairwise (fun _ _ _ _ h k => Int.le_antisymm h k) h1 h2 hp
theorem insAll_mg (xs ys : List Int) (h1 : risB xs = true) (h2 : risB ys = true) : insAll xs ys = mg xs ys :=
  sorted_unique ((insAll_perm xs ys).trans (mg_perm xs ys).symm) (insAll_sorted _ _ ((ris_iff _).1 h1)) (mg_sorted _ _ ((ris_iff _).1 h1) ((ris_iff _).1 h2))
theorem mg_comm (xs ys : List Int) (h1 : risB xs = true) (h2 : risB ys = true) : mg xs ys = mg ys xs :=
  sorted_unique ((mg_perm xs ys).trans (List.perm_append_comm.trans (mg_perm ys xs).symm)) (mg_sorted _ _ ((ris_iff _).1 h1) ((ris_iff _).1 h2)) (mg_sorted _ _ ((ris_iff _).1 h2) ((ris_iff _).1 h1))

def midL (L : List Int) (k : Nat) (c : Int) : List Int := L.take k ++ c :: L.drop k
theorem midL_len (L : List Int) (k : Nat) (c : Int) (h : k ≤ L.length) : (midL L k c).length = L.length + 1 := by unfold midL; simp; omega
theorem midL_end (L : List Int) (c : Int) : midL L L.length c = L ++ [c] := by unfold midL; simp
theorem midL_set (L : List Int) (k : Nat) (c y : Int) (h : k ≤ L.length) : ((midL L k c).map (Value.int .u64)).set k (.int .u64 y) = (midL L k y).map (Value.int .u64) := by
  unfold midL
  rw [List.map_append, List.map_append, List.set_append_right _ _ (by simp; omega)]
  simp [Nat.min_eq_left h]
theorem midL_down (L : List Int) (k : Nat) (h : k < L.length) : midL L (k + 1) (nth L k) = midL L k (nth L k) := by
  unfold midL
  rw [take_succ_nth h, List.append_assoc]
  congr 1
  rw [List.drop_eq_getElem_cons h, ← nth_get h]
  rfl
theorem midL_at (L : List Int) (k : Nat) (c : Int) (h : k < L.length) : ((midL L (k + 1) c).map (Value.int .u64))[k]? = some (.int .u64 (nth L k)) := by
  unfold midL
  rw [List.map_append, List.getElem?_append_left (by simp; omega), List.getElem?_map, List.getElem?_take_of_lt (by omega), List.getElem?_eq_getElem h, nth_get h]
  rfl
theorem midL_mid (L : List Int) (k : Nat) (c : Int) (h : k ≤ L.length) : ((midL L k c).map (Value.int .u64))[k]? = some (.int .u64 c) := by
  unfold midL
  rw [List.map_append, List.getElem?_append_right (by simp; omega)]
  simp [Nat.min_eq_left h]

set_option maxRecDepth 100000 in
set_option maxHeartbeats 3200000 in
theorem rmerge_ok (at1 at2 : Option Addr) (cap1 cap2 : Nat) (xs ys : List Int) (w : World) (h1 : Ints w .u64 at1 cap1 xs) (n1 : at1 = none → cap1 = 0) (h2 : Ints w .u64 at2 cap2 ys) (l1 : xs.length ≤ 200) (l2 : ys.length ≤ 200) (s1 : Hid (risB xs = true)) (s2 : Hid (risB ys = true)) :
    Calls Try.prog 24 #[.slice at1 xs.length cap1, .slice at2 ys.length cap2] w fun e w' =>
      ∃ v, e = .returned (.tuple #[v, .int .i64 0]) ∧ w'.ownsRow w.heap.size 26 1 v (insAll xs ys).length ((insAll xs ys).map (Value.int .u64)) ∧ Below w.heap.size w w' := by
  have m1 := h1.most
  have r1 := h1.room
  have m2 := h2.most
  have r2 := h2.room
  have H1 := Lib.hid h1
  have H2 := Lib.hid h2
  have N1 := Lib.hid n1
  clear h1 h2 n1
  have d1 : decide ((200 : Int) < (xs.length : Int)) = false := decide_eq_false (by omega)
  have d2 : decide ((200 : Int) < (ys.length : Int)) = false := decide_eq_false (by omega)
  obtain ⟨ti, hin, hz0, hz1, hz2⟩ := info_parts info_u64
  go_enter Try.func24, Try.ntmps24
  go_wp2_with fail
  refine (rising_is at1 cap1 xs true s1 _ H1.out).mono ?_
  rintro e _ ⟨rfl, n1, hw1⟩
  have hw1' := Lib.hid hw1
  clear hw1
  go_wp2_with fail
  refine (rising_is at2 cap2 ys true s2 _ (by rw [hw1'.out]; exact H2.out.drewN n1)).mono ?_
  rintro e w2 ⟨rfl, n2, hw2⟩
  have hw2' : Hid (∃ n, w2 = w.drewN n) := Lib.hid ⟨_, by rw [hw2, hw1'.out]; exact World.drewN_drewN _ _ _⟩
  clear hw2 hw1'
  have hB2 : Below w.heap.size w w2 := by
    obtain ⟨n, rfl⟩ := hw2'.out
    exact below_drewN' (Below.refl _ _) n
  have hs2 := hB2.size
  go_wp2_with (at_builtin; refine wpList_append_ints rfl _ _ 22 rfl w.heap.size 26 ti (.int .u64 0) 8 .u64 Try.underlying22 hin hz0 hz1 hz2 rfl _ 0 [] rfl (owns_built [] hs2 (by unfold maxLen; simp)) at1 cap1 xs rfl ((H1.out.below hB2).alloc _) N1.out ?c3 ?c4 ?c5 ?_)
  case c3 => unfold maxLen; omega
  case c4 => omega
  case c5 => simp; omega
  intro v0 w3 hown0 hgrow0
  have hB3 : Below w.heap.size w w3 := (hB2.alloc hs2 _).grown hgrow0 (by simp; omega) (own_block (owns_built (e := 26) [] hs2 (by unfold maxLen; simp)))
  have hown1 : w3.ownsRow w.heap.size 26 1 v0 xs.length (xs.map (Value.int .u64)) := by simpa using hown0
  clear hown0 hgrow0 hB2 hs2
  go_wp2_with fail
  go_loopw [6, 7] (fun v i wr => ∃ j : Nat, j ≤ ys.length ∧ i = .int .i64 j ∧ wr.ownsRow w.heap.size 26 1 v (insAll xs (ys.take j)).length ((insAll xs (ys.take j)).map (Value.int .u64)) ∧ Below w.heap.size w wr) (fun _ i _ => ys.length - (intOf i).toNat)
  case atStart => exact ⟨0, Nat.zero_le _, rfl, hown1, hB3⟩
  case round =>
    clear hown1 hB3
    obtain ⟨j, hj, rfl, hown, hB⟩ := hrel
    by_cases hlt : j < ys.length
    · have HS : Hid (insAll xs (ys.take (j + 1)) = insR (insAll xs (ys.take j)) (nth ys j)) := Lib.hid (by rw [take_succ_nth hlt, insAll_snoc])
      have hL : (insAll xs (ys.take j)).length ≤ 400 := by rw [insAll_len, List.length_take]; omega
      obtain ⟨L, hLe⟩ : ∃ L, insAll xs (ys.take j) = L := ⟨_, rfl⟩
      rw [hLe] at hown HS hL
      clear hLe
      obtain ⟨y, hy⟩ : ∃ y, nth ys j = y := ⟨_, rfl⟩
      obtain ⟨b, off, e1, hc⟩ := H2.out.at hlt
      rw [hy] at hc HS
      clear hy
      subst e1
      have hb := lt_of_cell' hc
      have hcw := cell_below' hB hc
      have hs := hB.size
      obtain ⟨ao, co, rfl, hio, _⟩ := own_ints hown
      have hio1 := hio.most
      have i0 : (0 : Int) ≤ (j : Int) := by omega
      have i1 : (j : Int) < (ys.length : Int) := by omega
      clear hio
      go_wp2_with (at_builtin; refine wpList_append_lies _ rfl _ _ 22 rfl w.heap.size 26 ti (.int .u64 0) 1 8 Try.underlying22 hin hz0 hz1 hz2 rfl (by omega) _ _ _ rfl (hown.alloc _) ⟨wr.heap.size, 0, none⟩ 1 1 [.int .u64 y] rfl rfl one_cell (by simp [Value.oneCell']) (by omega) (by unfold maxLen; omega) (by omega) (by simp; omega) (wr.heap.size + 1) (by simp) ?_)
      intro g co2 w4 hown4 hgrow4 _ hg4
      have hB4 : Below w.heap.size w w4 := (hB.alloc hs _).grown hgrow4 (by simp; omega) (own_block hown)
      have hown5 : w4.ownsRow w.heap.size 26 1 (.slice (some ⟨g, 0, none⟩) (L.length + 1) co2) (L.length + 1) ((midL L L.length y).map (Value.int .u64)) := by rw [midL_end, List.map_append]; exact hown4
      have hge : w.heap.size ≤ g := own_block hown5 g rfl
      have HL : Hid ((insAll xs (ys.take (j + 1))).length = L.length + 1) := Lib.hid (by rw [HS.out, insR_len])
      clear hown4 hgrow4 hB hs hcw hown
      go_wp2_with fail
      go_loopw [8] (fun i wr => ∃ (k : Nat) (c : Int), k ≤ L.length ∧ i = .int .i64 k ∧ Hid (insAt L y k = insAt L y L.length) ∧ wr.ownsRow w.heap.size 26 1 (.slice (some ⟨g, 0, none⟩) (L.length + 1) co2) (L.length + 1) ((midL L k c).map (Value.int .u64)) ∧ Below w.heap.size w wr) (fun i _ => (intOf i).toNat)
      case atStart => exact ⟨L.length, y, Nat.le_refl _, rfl, Lib.hid rfl, hown5, hB4⟩
      case round =>
        clear hown5 hB4 hg4
        obtain ⟨k, c, hk, rfl, hia, hown, hB⟩ := hrel
        have hcw := cell_below' hB hc
        have hfr := fun i => hown.frozenAt i
        cases k with
        | zero =>
          have hcell := (hown.cellAt 0 (by omega)).trans (midL_mid L 0 c hk)
          have hf0 := hfr 0
          have HR : Hid (midL L 0 y = insR L y) := Lib.hid (by unfold midL insR; rw [← hia.out]; rfl)
          have hst := hown.stored 0 (.int .u64 y)
          rw [midL_set L 0 c y hk, HR.out, ← HS.out] at hst
          have hst' := Lib.hid hst
          clear hst hfr
          go_wp2_with fail
          go_quiet (fail)
          rename_i nq
          go_wp2_with fail
          go_roundw
          case rel => exact ⟨j + 1, by omega, by go_num, by rw [HL.out]; exact owns_drewN hst'.out.1 nq, below_drewN' (hB.setCell (p := ⟨g, 0, none⟩) hge _) nq⟩
          case measure => simp [intOf]; omega
        | succ k =>
          have hcp := (hown.cellAt k (by omega)).trans (midL_at L k c (by omega))
          have hcell := (hown.cellAt (k + 1) (by omega)).trans (midL_mid L (k + 1) c hk)
          have hf0 := hfr (k + 1)
          have k0 : (0 : Int) ≤ (k : Int) := by omega
          have k1 : (k : Int) < (L.length : Int) + 1 := by omega
          have k2 : (k : Int) + 1 < (L.length : Int) + 1 := by omega
          have k3 : (0 : Int) ≤ (k : Int) + 1 := by omega
          have k4 : IntKind.i64.wrap (k : Int) = (k : Int) := IntWalk.i64_in _ (by omega)
          have k5 : decide ((0 : Int) < (k : Int) + 1) = true := decide_eq_true (by omega)
          have k6 : ((k : Int) + 1).toNat = k + 1 := by omega
          by_cases hy : y < nth L k
          · have hd : decide (y < nth L k) = true := decide_eq_true hy
            have HI : Hid (insAt L y k = insAt L y L.length) := Lib.hid (by rw [← hia.out]; exact (if_pos hy).symm)
            have hst := hown.stored (k + 1) (.int .u64 (nth L k))
            rw [midL_set L (k + 1) c (nth L k) hk, midL_down L k (by omega)] at hst
            have hst' := Lib.hid hst
            clear hst hfr hy
            go_wp2_with fail
            go_quiet (fail)
            rename_i nq
            go_wp2_with fail
            go_roundw
            case rel => exact ⟨k, nth L k, by omega, by go_num, HI.out, owns_drewN hst'.out.1 nq, below_drewN' (hB.setCell (p := ⟨g, k + 1, none⟩) hge _) nq⟩
            case measure => simp [intOf]
          · have hd : decide (y < nth L k) = false := decide_eq_false hy
            have HR : Hid (midL L (k + 1) y = insR L y) := Lib.hid (by unfold insR; rw [← hia.out, show insAt L y (k + 1) = k + 1 from if_neg hy]; rfl)
            have hst := hown.stored (k + 1) (.int .u64 y)
            rw [midL_set L (k + 1) c y hk, HR.out, ← HS.out] at hst
            have hst' := Lib.hid hst
            clear hst hfr hy
            go_wp2_with fail
            go_quiet (fail)
            rename_i nq
            go_wp2_with fail
            go_roundw
            case rel => exact ⟨j + 1, by omega, by go_num, by rw [HL.out]; exact owns_drewN hst'.out.1 nq, below_drewN' (hB.setCell (p := ⟨g, k + 1, none⟩) hge _) nq⟩
            case measure => simp [intOf]; omega
    · obtain rfl : j = ys.length := by omega
      go_wp2_with fail
      go_returns
      exact ⟨_, rfl, by rw [List.take_of_length_le (Nat.le_refl _)] at hown; exact hown, hB⟩

theorem rmerge_many1 (at1 at2 : Option Addr) (len1 len2 cap1 cap2 : Nat) (w : World) (h : 200 < len1) (m1 : len1 ≤ 9223372036854775807) (_m2 : len2 ≤ 9223372036854775807) :
    Calls Try.prog 24 #[.slice at1 len1 cap1, .slice at2 len2 cap2] w fun e w' => e = .returned (.tuple #[.slice none 0 0, .int .i64 4]) ∧ w' = w := by
  have d1 : decide ((200 : Int) < (len1 : Int)) = true := decide_eq_true (by omega)
  go_enter Try.func24, Try.ntmps24
  go_wp2_with fail
  go_returns
  exact ⟨rfl, rfl⟩
theorem rmerge_many2 (at1 at2 : Option Addr) (len1 len2 cap1 cap2 : Nat) (w : World) (h : len1 ≤ 200) (h2 : 200 < len2) (m2 : len2 ≤ 9223372036854775807) :
    Calls Try.prog 24 #[.slice at1 len1 cap1, .slice at2 len2 cap2] w fun e w' => e = .returned (.tuple #[.slice none 0 0, .int .i64 4]) ∧ w' = w := by
  have d1 : decide ((200 : Int) < (len1 : Int)) = false := decide_eq_false (by omega)
  have d2 : decide ((200 : Int) < (len2 : Int)) = true := decide_eq_true (by omega)
  go_enter Try.func24, Try.ntmps24
  go_wp2_with fail
  go_returns
  exact ⟨rfl, rfl⟩
theorem rmerge_order1 (at1 at2 : Option Addr) (cap1 cap2 : Nat) (xs ys : List Int) (w : World) (h1 : Ints w .u64 at1 cap1 xs) (l1 : xs.length ≤ 200) (l2 : ys.length ≤ 200) (s1 : Hid (risB xs = false)) :
    Calls Try.prog 24 #[.slice at1 xs.length cap1, .slice at2 ys.length cap2] w fun e w' => e = .returned (.tuple #[.slice none 0 0, .int .i64 32]) ∧ Below w.heap.size w w' := by
  have H1 := Lib.hid h1
  clear h1
  have d1 : decide ((200 : Int) < (xs.length : Int)) = false := decide_eq_false (by omega)
  have d2 : decide ((200 : Int) < (ys.length : Int)) = false := decide_eq_false (by omega)
  go_enter Try.func24, Try.ntmps24
  go_wp2_with fail
  refine (rising_is at1 cap1 xs false s1 _ H1.out).mono ?_
  rintro e w1 ⟨rfl, n1, rfl⟩
  go_wp2_with fail
  go_returns
  exact ⟨rfl, below_drewN' (Below.refl _ _) n1⟩
theorem rmerge_order2 (at1 at2 : Option Addr) (cap1 cap2 : Nat) (xs ys : List Int) (w : World) (h1 : Ints w .u64 at1 cap1 xs) (h2 : Ints w .u64 at2 cap2 ys) (l1 : xs.length ≤ 200) (l2 : ys.length ≤ 200) (s1 : Hid (risB xs = true)) (s2 : Hid (risB ys = false)) :
    Calls Try.prog 24 #[.slice at1 xs.length cap1, .slice at2 ys.length cap2] w fun e w' => e = .returned (.tuple #[.slice none 0 0, .int .i64 32]) ∧ Below w.heap.size w w' := by
  have H1 := Lib.hid h1
  have H2 := Lib.hid h2
  clear h1 h2
  have d1 : decide ((200 : Int) < (xs.length : Int)) = false := decide_eq_false (by omega)
  have d2 : decide ((200 : Int) < (ys.length : Int)) = false := decide_eq_false (by omega)
  go_enter Try.func24, Try.ntmps24
  go_wp2_with fail
  refine (rising_is at1 cap1 xs true s1 _ H1.out).mono ?_
  rintro e w1 ⟨rfl, n1, hw1⟩
  have hw1' := Lib.hid hw1
  clear hw1
  go_wp2_with fail
  refine (rising_is at2 cap2 ys false s2 _ (by rw [hw1'.out]; exact H2.out.drewN n1)).mono ?_
  rintro e w2 ⟨rfl, n2, hw2⟩
  have hw2' := Lib.hid hw2
  clear hw2
  go_wp2_with fail
  go_returns
  exact ⟨rfl, by rw [hw2'.out, hw1'.out]; exact below_drewN' (below_drewN' (Below.refl _ _) n1) n2⟩

theorem merge_many1 (at1 at2 : Option Addr) (len1 len2 cap1 cap2 : Nat) (w : World) (h : 200 < len1) (m1 : len1 ≤ 9223372036854775807) (_m2 : len2 ≤ 9223372036854775807) :
    Calls Try.prog 13 #[.slice at1 len1 cap1, .slice at2 len2 cap2] w fun e w' => e = .returned (.tuple #[.slice none 0 0, .int .i64 4]) ∧ w' = w := by
  have d1 : decide ((200 : Int) < (len1 : Int)) = true := decide_eq_true (by omega)
  go_enter Try.func13, Try.ntmps13
  go_wp2_with fail
  go_returns
  exact ⟨rfl, rfl⟩
theorem merge_many2 (at1 at2 : Option Addr) (len1 len2 cap1 cap2 : Nat) (w : World) (h : len1 ≤ 200) (h2 : 200 < len2) (m2 : len2 ≤ 9223372036854775807) :
    Calls Try.prog 13 #[.slice at1 len1 cap1, .slice at2 len2 cap2] w fun e w' => e = .returned (.tuple #[.slice none 0 0, .int .i64 4]) ∧ w' = w := by
  have d1 : decide ((200 : Int) < (len1 : Int)) = false := decide_eq_false (by omega)
  have d2 : decide ((200 : Int) < (len2 : Int)) = true := decide_eq_true (by omega)
  go_enter Try.func13, Try.ntmps13
  go_wp2_with fail
  go_returns
  exact ⟨rfl, rfl⟩
theorem merge_order1 (at1 at2 : Option Addr) (cap1 cap2 : Nat) (xs ys : List Int) (w : World) (h1 : Ints w .u64 at1 cap1 xs) (l1 : xs.length ≤ 200) (l2 : ys.length ≤ 200) (s1 : Hid (risB xs = false)) :
    Calls Try.prog 13 #[.slice at1 xs.length cap1, .slice at2 ys.length cap2] w fun e w' => e = .returned (.tuple #[.slice none 0 0, .int .i64 32]) ∧ Below w.heap.size w w' := by
  have H1 := Lib.hid h1
  clear h1
  have d1 : decide ((200 : Int) < (xs.length : Int)) = false := decide_eq_false (by omega)
  have d2 : decide ((200 : Int) < (ys.length : Int)) = false := decide_eq_false (by omega)
  go_enter Try.func13, Try.ntmps13
  go_wp2_with fail
  refine (sorted_is at1 cap1 xs false s1 _ H1.out).mono ?_
  rintro e w1 ⟨rfl, n1, rfl⟩
  go_wp2_with fail
  go_returns
  exact ⟨rfl, below_drewN' (Below.refl _ _) n1⟩
theorem merge_order2 (at1 at2 : Option Addr) (cap1 cap2 : Nat) (xs ys : List Int) (w : World) (h1 : Ints w .u64 at1 cap1 xs) (h2 : Ints w .u64 at2 cap2 ys) (l1 : xs.length ≤ 200) (l2 : ys.length ≤ 200) (s1 : Hid (risB xs = true)) (s2 : Hid (risB ys = false)) :
    Calls Try.prog 13 #[.slice at1 xs.length cap1, .slice at2 ys.length cap2] w fun e w' => e = .returned (.tuple #[.slice none 0 0, .int .i64 32]) ∧ Below w.heap.size w w' := by
  have H1 := Lib.hid h1
  have H2 := Lib.hid h2
  clear h1 h2
  have d1 : decide ((200 : Int) < (xs.length : Int)) = false := decide_eq_false (by omega)
  have d2 : decide ((200 : Int) < (ys.length : Int)) = false := decide_eq_false (by omega)
  go_enter Try.func13, Try.ntmps13
  go_wp2_with fail
  refine (sorted_is at1 cap1 xs true s1 _ H1.out).mono ?_
  rintro e w1 ⟨rfl, n1, hw1⟩
  have hw1' := Lib.hid hw1
  clear hw1
  go_wp2_with fail
  refine (sorted_is at2 cap2 ys false s2 _ (by rw [hw1'.out]; exact H2.out.drewN n1)).mono ?_
  rintro e w2 ⟨rfl, n2, hw2⟩
  have hw2' := Lib.hid hw2
  clear hw2
  go_wp2_with fail
  go_returns
  exact ⟨rfl, by rw [hw2'.out, hw1'.out]; exact below_drewN' (below_drewN' (Below.refl _ _) n1) n2⟩

end Go.Proofs.Ytdalbngfhinadaa
