/-
  LevelsWaits, walked over the contracts of package levels: it returns true.
-/
import Derived.Test.YtegbcagcfmijcaaLev04D
namespace Go.Proofs.Ytegbcagcfmijcaa
open Go.RowKit

theorem foldl_max : ∀ (l : List Int) (m : Int), m ≤ l.foldl max m ∧ (∀ x ∈ l, x ≤ l.foldl max m) ∧ (l.foldl max m = m ∨ l.foldl max m ∈ l) := by
  intro l
  induction l with
  | nil => intro m; exact ⟨Int.le_refl _, fun x hx => absurd hx (by simp), .inl rfl⟩
  | cons y l ih =>
    intro m
    obtain ⟨h1, h2, h3⟩ := ih (max m y)
    have e : (y :: l).foldl max m = l.foldl max (max m y) := rfl
    rw [e]
    refine ⟨by omega, fun x hx => ?_, ?_⟩
    · rcases List.mem_cons.1 hx with rfl | hx
      · omega
      · exact h2 x hx
    · rcases h3 with h3 | h3
      · rw [h3]
        by_cases q : m ≤ y
        · exact .inr (List.mem_cons.2 (.inl (by omega)))
        · exact .inl (by omega)
      · exact .inr (List.mem_cons.2 (.inr h3))
theorem wts_max (c : Int) (bs : List Bk) : 0 ≤ wts c bs ∧ (∀ b ∈ bs, b.wt c ≤ wts c bs) ∧ (wts c bs = 0 ∨ ∃ b ∈ bs, b.wt c = wts c bs) := by
  obtain ⟨h1, h2, h3⟩ := foldl_max (bs.map (Bk.wt c)) 0
  refine ⟨h1, fun b hb => h2 _ (List.mem_map_of_mem hb), ?_⟩
  rcases h3 with h3 | h3
  · exact .inl h3
  · obtain ⟨b, hb, e⟩ := List.mem_map.1 h3
    exact .inr ⟨b, hb, e⟩
/-- A bucket's wait is never the last tick by chance. -/
theorem wt_cases {b : Bk} (hb : b.Ok) (c : Int) : (b.wt c = 18446744073709551615 ∧ filL b.bu b.ra b.pe b.le b.pt b.a 18446744073709551615 < c) ∨
    (0 ≤ b.wt c ∧ b.wt c ≤ 1000000000000000000 ∧ b.wt c ≤ 18446744073709551615 - b.a ∧ c ≤ filL b.bu b.ra b.pe b.le b.pt b.a (b.a + b.wt c) ∧ ∀ m, 0 ≤ m → m < b.wt c → filL b.bu b.ra b.pe b.le b.pt b.a (b.a + m) < c) := by
  have hw := hb.wt c
  have hb : Buc b.bu b.ra b.pe b.le b.pt b.a := hb
  obtain ⟨z1, z2, z3, z4, z5, z6⟩ := hb.nums
  have ht := hb.tick
  unfold isU at ht
  obtain ⟨n, en⟩ : ∃ n, b.wt c = n := ⟨_, rfl⟩
  rw [en] at hw ⊢
  have hn := hw.num
  unfold isU at hn
  rcases hw.is with ⟨e, f⟩ | ⟨b1, l1, m1⟩
  · exact .inl ⟨e, f⟩
  · refine .inr ⟨hn.1, ?_, b1, l1, m1⟩
    rcases Int.lt_or_le 1000000000000000000 n with q | q
    · exfalso
      obtain ⟨k1, k2⟩ := (hb.holds_iff hn.1 (by unfold isU; omega)).1 l1
      have hm := m1 1000000000000000000 (by omega) q
      have hv := hb.vol0.1
      have hp : c * b.pe ≤ 1000000000000000000 := by
        rcases Int.lt_or_le c 0 with z | z
        · have := Int.mul_nonneg (show 0 ≤ -c by omega) (show 0 ≤ b.pe by omega)
          rw [Int.neg_mul] at this
          omega
        · exact Int.mul_le_mul (show c ≤ 1000000000 by omega) z6 (by omega) (by omega)
      rcases Int.lt_or_le 0 b.ra with z | z
      · have h1 : 1000000000000000000 * 1 ≤ 1000000000000000000 * b.ra := Int.mul_le_mul_of_nonneg_left (show 1 ≤ b.ra by omega) (by omega)
        have := (hb.holds_iff (c := c) (n := 1000000000000000000) (by omega) (by unfold isU; omega)).2 ⟨k1, by omega⟩
        omega
      · have hz : b.ra = 0 := by omega
        rw [hz, Int.mul_zero] at k2
        have := (hb.holds_iff (c := c) (n := 0) (by omega) (by unfold isU; omega)).2 ⟨k1, by omega⟩
        have := m1 0 (by omega) (by omega)
        omega
    · exact q
/-- The wait of a row whose buckets are at one tick. -/
theorem row_wait {bs : List Bk} {c A : Int} (hr : Row bs) (hA : ∀ b ∈ bs, b.a = A) :
    (wts c bs = 18446744073709551615 ∧ holdB c (bs.map (Bk.fil 18446744073709551615)) = false) ∨
    (0 ≤ wts c bs ∧ wts c bs ≠ 18446744073709551615 ∧ (bs ≠ [] → wts c bs ≤ 18446744073709551615 - A) ∧ holdB c (bs.map (Bk.fil (A + wts c bs))) = true ∧ (0 < wts c bs → holdB c (bs.map (Bk.fil (A + wts c bs - 1))) = false)) := by
  obtain ⟨m1, m2, m3⟩ := wts_max c bs
  obtain ⟨n, en⟩ : ∃ n, wts c bs = n := ⟨_, rfl⟩
  rw [en] at m1 m2 m3 ⊢
  have no : ∀ b ∈ bs, ∀ t, filL b.bu b.ra b.pe b.le b.pt b.a t < c → holdB c (bs.map (Bk.fil t)) = false := fun b hb t h => by
    cases e : holdB c (bs.map (Bk.fil t)) with
    | false => rfl
    | true =>
      have := holdB_yes e (b.fil t) (List.mem_map_of_mem hb)
      have e2 : (b.fil t).le = filL b.bu b.ra b.pe b.le b.pt b.a t := rfl
      omega
  by_cases q : ∃ b ∈ bs, b.wt c = 18446744073709551615
  · obtain ⟨b, hb, e⟩ := q
    left
    have h1 := m2 b hb
    rcases wt_cases (hr.ok b hb) c with ⟨_, f⟩ | ⟨_, f, _⟩
    · refine ⟨?_, no b hb _ f⟩
      rcases m3 with m3 | ⟨b', hb', e'⟩
      · omega
      · have := ((hr.ok b' hb').wt c).num.2
        omega
    · omega
  · right
    have yes : ∀ b ∈ bs, 0 ≤ b.wt c ∧ b.wt c ≤ 1000000000000000000 ∧ b.wt c ≤ 18446744073709551615 - A ∧ c ≤ filL b.bu b.ra b.pe b.le b.pt b.a (A + b.wt c) ∧ ∀ m, 0 ≤ m → m < b.wt c → filL b.bu b.ra b.pe b.le b.pt b.a (A + m) < c := fun b hb => by
      rw [← hA b hb]
      rcases wt_cases (hr.ok b hb) c with ⟨e, _⟩ | h
      · exact absurd ⟨b, hb, e⟩ q
      · exact h
    have hn : n ≤ 1000000000000000000 := by
      rcases m3 with m3 | ⟨b', hb', e'⟩
      · omega
      · have := (yes b' hb').2.1
        omega
    refine ⟨m1, by omega, fun hne => ?_, holdB_mk fun x hx => ?_, fun h0 => ?_⟩
    · rcases m3 with m3 | ⟨b', hb', e'⟩
      · obtain ⟨b, hb⟩ := List.exists_mem_of_ne_nil bs hne
        have := (hr.ok b hb).tick.2
        have := hA b hb
        omega
      · have := (yes b' hb').2.2.1
        omega
    · obtain ⟨b, hb, rfl⟩ := List.mem_map.1 hx
      have h1 := (yes b hb)
      have h2 := filL_mono (hr.ok b hb) (t1 := A + b.wt c) (t2 := A + n) (by have := hA b hb; omega) (by have := m2 b hb; omega)
      have e2 : (b.fil (A + n)).le = filL b.bu b.ra b.pe b.le b.pt b.a (A + n) := rfl
      omega
    · rcases m3 with m3 | ⟨b', hb', e'⟩
      · omega
      · have := (yes b' hb').2.2.2.2 (n - 1) (by omega) (by omega)
        rw [show A + (n - 1) = A + n - 1 by omega] at this
        exact no b' hb' _ this

end Go.Proofs.Ytegbcagcfmijcaa
