/-
  The reference of layer 4, walked.
-/
import Derived.Test.YtegbcagcfmijcaaLev04D
import Derived.Test.YtegbcagcfmijcaaRef03F
import Derived.Deep.QuietTactic
import Derived.BigQuiet
namespace Go.Proofs.Ytegbcagcfmijcaa
open Go.RowKit

/-- The least level of a row. -/
def least (bs : List Bk) : Int := (bs.map Bk.le).foldl min 9223372036854775807
theorem least_snoc (bs : List Bk) (b : Bk) : least (bs ++ [b]) = min (least bs) b.le := by
  unfold least
  rw [List.map_append, List.foldl_append]
  rfl
theorem foldl_min : ∀ (l : List Int) (m : Int), l.foldl min m ≤ m ∧ (∀ x ∈ l, l.foldl min m ≤ x) ∧ (l.foldl min m = m ∨ l.foldl min m ∈ l) := by
  intro l
  induction l with
  | nil => intro m; exact ⟨Int.le_refl _, fun x hx => absurd hx (by simp), .inl rfl⟩
  | cons y l ih =>
    intro m
    obtain ⟨h1, h2, h3⟩ := ih (min m y)
    have e : (y :: l).foldl min m = l.foldl min (min m y) := rfl
    rw [e]
    refine ⟨by omega, fun x hx => ?_, ?_⟩
    · rcases List.mem_cons.1 hx with rfl | hx
      · omega
      · exact h2 x hx
    · rcases h3 with h3 | h3
      · rw [h3]
        by_cases q : m ≤ y
        · exact .inl (by omega)
        · exact .inr (List.mem_cons.2 (.inl (by omega)))
      · exact .inr (List.mem_cons.2 (.inr h3))
theorem least_holds {bs : List Bk} {c : Int} (hc : c ≤ 9223372036854775807) : decide (c ≤ least bs) = holdB c bs := by
  obtain ⟨h1, h2, h3⟩ := foldl_min (bs.map Bk.le) 9223372036854775807
  have hl : least bs = (bs.map Bk.le).foldl min 9223372036854775807 := rfl
  rw [← hl] at h1 h2 h3
  cases e : holdB c bs with
  | true =>
    refine decide_eq_true ?_
    rcases h3 with h3 | h3
    · omega
    · obtain ⟨b, hb, eb⟩ := List.mem_map.1 h3
      have := holdB_yes e b hb
      omega
  | false =>
    refine decide_eq_false fun q => ?_
    have : holdB c bs = true := holdB_mk fun b hb => by
      have := h2 b.le (List.mem_map_of_mem hb)
      omega
    rw [e] at this
    cases this
theorem flat_append (a b : List Bk) : flat (a ++ b) = flat a ++ flat b := by unfold flat; simp
theorem flat_set (A B : List Bk) (b : Bk) (x : Int) : (flat (A ++ b :: B)).set (A.length * 6 + 3) (.int .i64 x) = flat (A ++ ⟨b.bu, b.ra, b.pe, x, b.pt, b.a⟩ :: B) := by
  rw [flat_append, flat_append, List.set_append_right _ _ (by rw [flat_len]; omega), flat_len]
  congr 1
  have e : A.length * 6 + 3 - A.length * 6 = 3 := by omega
  rw [e]
  have e2 : ∀ y : Bk, flat (y :: B) = y.vals ++ flat B := fun y => by unfold flat; simp
  rw [e2, e2]
  rfl
/-- A row, its first buckets charged. -/
def chgK (fs : List Bk) (c : Int) (k : Nat) : List Bk := (fs.take k).map (Bk.chg c) ++ fs.drop k
theorem chgK_succ {fs : List Bk} {c : Int} {k : Nat} (h : k < fs.length) {bu ra pe L Q T : Int} (eb : bk fs k = ⟨bu, ra, pe, L, Q, T⟩) : (flat (chgK fs c k)).set (k * 6 + 3) (.int .i64 (L - c)) = flat (chgK fs c (k + 1)) := by
  have e1 : fs.drop k = bk fs k :: fs.drop (k + 1) := by rw [List.drop_eq_getElem_cons h, bk_get h]
  have e2 : ((fs.take k).map (Bk.chg c)).length = k := by simp; omega
  have := flat_set ((fs.take k).map (Bk.chg c)) (fs.drop (k + 1)) (bk fs k) (L - c)
  rw [e2] at this
  unfold chgK
  rw [e1, this, take_succ_bk h, List.map_append, List.append_assoc, eb]
  rfl
theorem chgK_len (fs : List Bk) (c : Int) (k : Nat) : (chgK fs c k).length = fs.length := by unfold chgK; simp; omega
theorem chgK_at {fs : List Bk} {c : Int} {k : Nat} (h : k < fs.length) : bk (chgK fs c k) k = bk fs k := by
  have e2 : ((fs.take k).map (Bk.chg c)).length = k := by simp; omega
  rw [bk_get (by rw [chgK_len]; exact h), bk_get h]
  unfold chgK
  rw [List.getElem_append_right (by omega), List.getElem_drop]
  congr 1
  omega

set_option maxRecDepth 100000 in
set_option maxHeartbeats 3200000 in
theorem sameb_tt {bs : List Bk} {v1 v2 : Value} {w : World} (h1 : IsB w v1 bs) (h2 : IsB w v2 bs) :
    Calls Try.prog 11 #[v1, v2] w fun e w' => e = .returned (.bool true) ∧ Below w.heap.size w w' := by
  obtain ⟨at0, cap, rfl, hb⟩ := h1
  have i1 := hb.room
  have i2 := hb.most
  obtain ⟨at2, cap2, rfl, hb2⟩ := h2
  have j1 := hb2.room
  have j2 := hb2.most
  have HB := Lib.hid hb
  have HC := Lib.hid hb2
  clear hb hb2
  go_enter Try.func11, Try.ntmps11
  go_wp2_with fail
  go_loopw [5] (fun s5 wr => ∃ k : Nat, s5 = .int .i64 k ∧ k ≤ bs.length ∧ Below w.heap.size w wr) (fun s5 _ => bs.length - (intOf s5).toNat)
  case atStart => exact ⟨0, rfl, by omega, Below.refl _ _⟩
  case round =>
    obtain ⟨k, rfl, hk, hB⟩ := hrel
    have hs := hB.size
    by_cases hlt : k < bs.length
    case neg =>
      go_wp2_with fail
      go_returns
      exact ⟨rfl, hB⟩
    case pos =>
      obtain ⟨b, off, bu, ra, pe, le, pt, a, rfl, ebk, C0, C1, C2, C3, C4, C5⟩ := HB.out.at hlt
      have zb := lt_of_cell C0
      obtain ⟨b2, off2, _, _, _, _, _, _, rfl, ebk2, D0, D1, D2, D3, D4, D5⟩ := HC.out.at hlt
      rw [ebk] at ebk2
      cases ebk2
      have zd := lt_of_cell D0
      have hkn : (k : Int) < (bs.length : Int) := by omega
      have hk0 : (0 : Int) ≤ (k : Int) := by omega
      clear ebk
      have c0 := cell_below hB C0
      have c1 := cell_below hB C1
      have c2 := cell_below hB C2
      have c3 := cell_below hB C3
      have c4 := cell_below hB C4
      have c5 := cell_below hB C5
      have d0 := cell_below hB D0
      have d1 := cell_below hB D1
      have d2 := cell_below hB D2
      have d3 := cell_below hB D3
      have d4 := cell_below hB D4
      have d5 := cell_below hB D5
      go_wp2_with fail
      go_quiet (fail)
      go_wp2_with fail
      go_roundw
      case rel => exact ⟨k + 1, by go_num, by omega, below_drewN hB nq⟩
      case measure => simp [intOf]; omega

end Go.Proofs.Ytegbcagcfmijcaa
