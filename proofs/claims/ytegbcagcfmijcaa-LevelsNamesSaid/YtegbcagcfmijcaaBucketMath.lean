/-
  What buckets hold, in parts: refilling adds, up to the burst; two steps are one; the wait by a quotient.
-/
import Derived.Test.YtegbcagcfmijcaaRef03E
namespace Go.Proofs.Ytegbcagcfmijcaa

/-- All parts that a bucket holds. -/
def vol (pe le pt : Int) : Int := le * pe + pt
theorem vol_ge {pe le pt c : Int} (h0 : 0 ≤ pt) (h1 : pt < pe) : c ≤ le ↔ c * pe ≤ vol pe le pt := by
  unfold vol
  constructor
  · intro h
    have := Int.mul_le_mul_of_nonneg_right h (show 0 ≤ pe by omega)
    omega
  · intro h
    rcases Int.lt_or_le le c with q | q
    · have := Int.mul_le_mul_of_nonneg_right (show le + 1 ≤ c by omega) (show 0 ≤ pe by omega)
      rw [Int.add_mul, Int.one_mul] at this
      omega
    · exact q
theorem vol_inj {pe le pt le' pt' : Int} (h0 : 0 ≤ pt) (h1 : pt < pe) (h0' : 0 ≤ pt') (h1' : pt' < pe) (h : vol pe le pt = vol pe le' pt') : le = le' ∧ pt = pt' := by
  have a := (vol_ge (c := le') h0 h1).2 (by rw [h]; unfold vol; omega)
  have b := (vol_ge (c := le) h0' h1').2 (by rw [← h]; unfold vol; omega)
  obtain rfl : le = le' := by omega
  unfold vol at h
  exact ⟨rfl, by omega⟩
theorem Buc.vol0 {bu ra pe le pt a : Int} (h : Buc bu ra pe le pt a) : 0 ≤ vol pe le pt ∧ vol pe le pt ≤ bu * pe := by
  obtain ⟨_, _, _, _, h5, _⟩ := h.nums
  have h0 := h.l0
  have h1 := h.l1
  have h2 := h.q0
  have h3 := h.q1
  have := Int.mul_nonneg h0 (show 0 ≤ pe by omega)
  unfold vol
  refine ⟨by omega, ?_⟩
  by_cases e : le = bu
  · rw [e, h.top e]; omega
  · have := Int.mul_le_mul_of_nonneg_right (show le + 1 ≤ bu by omega) (show 0 ≤ pe by omega)
    rw [Int.add_mul, Int.one_mul] at this
    omega
theorem Buc.vol_filled {bu ra pe le pt a t : Int} (h : Buc bu ra pe le pt a) (hat : a ≤ t) :
    vol pe (filL bu ra pe le pt a t) (filP bu ra pe le pt a t) = min (vol pe le pt + (t - a) * ra) (bu * pe) := by
  obtain ⟨_, _, h3, _, h5, _⟩ := h.nums
  have f1 : filL bu ra pe le pt a t = if bu - le ≤ inN ra pt a t / pe then bu else le + inN ra pt a t / pe := if_neg (by omega)
  have f2 : filP bu ra pe le pt a t = if bu - le ≤ inN ra pt a t / pe then 0 else inN ra pt a t % pe := if_neg (by omega)
  have hd := Int.mul_ediv_add_emod (inN ra pt a t) pe
  have hm := Int.emod_nonneg (inN ra pt a t) (show pe ≠ 0 by omega)
  have hm2 := Int.emod_lt_of_pos (inN ra pt a t) (show 0 < pe by omega)
  have hn : inN ra pt a t = (t - a) * ra + pt := rfl
  obtain ⟨n, en⟩ : ∃ n, inN ra pt a t = n := ⟨_, rfl⟩
  obtain ⟨q, eq⟩ : ∃ q, n / pe = q := ⟨_, rfl⟩
  obtain ⟨m, em⟩ : ∃ m, n % pe = m := ⟨_, rfl⟩
  obtain ⟨s, es⟩ : ∃ s, (t - a) * ra = s := ⟨_, rfl⟩
  rw [en, eq] at f1
  rw [en, eq, em] at f2
  rw [en, eq, em, Int.mul_comm] at hd
  rw [en, em] at hm hm2
  rw [en, es] at hn
  rw [es]
  unfold vol
  by_cases c : bu - le ≤ q
  · rw [f1, f2, if_pos c, if_pos c]
    have := Int.mul_le_mul_of_nonneg_right (show bu ≤ le + q by omega) (show 0 ≤ pe by omega)
    rw [Int.add_mul] at this
    rw [Int.min_eq_right (by omega)]
    omega
  · rw [f1, f2, if_neg c, if_neg c]
    have := Int.mul_le_mul_of_nonneg_right (show le + q + 1 ≤ bu by omega) (show 0 ≤ pe by omega)
    rw [Int.add_mul, Int.one_mul, Int.add_mul] at this
    rw [Int.min_eq_left (by omega), Int.add_mul]
    omega

/-- Refilling in two steps is refilling at once. -/
theorem Buc.two {bu ra pe le pt a s t : Int} (h : Buc bu ra pe le pt a) (hs : isU s) (h1 : a ≤ s) (h2 : s ≤ t) (ht : isU t) :
    filL bu ra pe (filL bu ra pe le pt a s) (filP bu ra pe le pt a s) (filA a s) t = filL bu ra pe le pt a t ∧ filP bu ra pe (filL bu ra pe le pt a s) (filP bu ra pe le pt a s) (filA a s) t = filP bu ra pe le pt a t := by
  obtain ⟨_, _, h3, _, h5, _⟩ := h.nums
  have b1 := h.filled hs
  have ea : filA a s = s := if_neg (by omega)
  rw [ea] at b1 ⊢
  have b2 := b1.filled ht
  have b3 := h.filled ht
  have v1 := h.vol_filled h1
  have v2 := b1.vol_filled h2
  have v3 := h.vol_filled (show a ≤ t by omega)
  rw [v1] at v2
  have e : (t - a) * ra = (s - a) * ra + (t - s) * ra := by rw [← Int.add_mul]; congr 1; omega
  have p1 := Int.mul_nonneg (show 0 ≤ t - s by omega) h3
  refine vol_inj b2.q0 b2.q1 b3.q0 b3.q1 ?_
  rw [v2, v3, e, Int.min_def, Int.min_def, Int.min_def]
  split <;> split <;> split <;> omega

/-- The wait for a cost, by a quotient. -/
theorem Buc.holds_iff {bu ra pe le pt a c n : Int} (h : Buc bu ra pe le pt a) (hn : 0 ≤ n) (hm : isU (a + n)) : c ≤ filL bu ra pe le pt a (a + n) ↔ c ≤ bu ∧ c * pe ≤ vol pe le pt + n * ra := by
  obtain ⟨_, _, h3, _, h5, _⟩ := h.nums
  have b := h.filled hm
  have v := h.vol_filled (show a ≤ a + n by omega)
  rw [vol_ge b.q0 b.q1, v, show a + n - a = n by omega]
  constructor
  · intro q
    rw [Int.min_def] at q
    have h1 : c * pe ≤ bu * pe := by split at q <;> omega
    refine ⟨?_, by split at q <;> omega⟩
    exact Int.le_of_mul_le_mul_right h1 (by omega)
  · rintro ⟨q1, q2⟩
    have := Int.mul_le_mul_of_nonneg_right q1 (show 0 ≤ pe by omega)
    rw [Int.min_def]
    split <;> omega
theorem isWait_zero {bu ra pe le pt a c : Int} (h : Buc bu ra pe le pt a) (hc : c ≤ le) : IsWait bu ra pe le pt a c 0 := by
  refine ⟨by unfold isU; omega, .inr ⟨by have := h.tick.2; omega, ?_, fun m h1 h2 => by omega⟩⟩
  have := (h.holds_iff (c := c) (n := 0) (by omega) (by rw [Int.add_zero]; exact h.tick)).2 ⟨by have := h.l1; omega, by have := (vol_ge (c := c) h.q0 h.q1).1 hc; omega⟩
  exact this
theorem isWait_never {bu ra pe le pt a c : Int} (h : Buc bu ra pe le pt a) (hc : bu < c ∨ vol pe le pt + (18446744073709551615 - a) * ra < c * pe) : IsWait bu ra pe le pt a c 18446744073709551615 := by
  have ht := h.tick
  refine ⟨by unfold isU; omega, .inl ⟨rfl, ?_⟩⟩
  have := h.holds_iff (c := c) (n := 18446744073709551615 - a) (by unfold isU at ht; omega) (by unfold isU; omega)
  rw [show a + (18446744073709551615 - a) = 18446744073709551615 by omega] at this
  rcases Int.lt_or_le (filL bu ra pe le pt a 18446744073709551615) c with q | q
  · exact q
  · have := this.1 q
    omega
theorem isWait_some {bu ra pe le pt a c n : Int} (h : Buc bu ra pe le pt a) (hc : c ≤ bu) (hn : 0 ≤ n) (hm : n ≤ 18446744073709551615 - a) (h1 : c * pe ≤ vol pe le pt + n * ra) (h2 : 0 < n → vol pe le pt + (n - 1) * ra < c * pe) : IsWait bu ra pe le pt a c n := by
  obtain ⟨_, _, h3, _, h5, _⟩ := h.nums
  have ht := h.tick
  unfold isU at ht
  refine ⟨by unfold isU; omega, .inr ⟨hm, (h.holds_iff hn (by unfold isU; omega)).2 ⟨hc, h1⟩, fun m q1 q2 => ?_⟩⟩
  rcases Int.lt_or_le (filL bu ra pe le pt a (a + m)) c with q | q
  · exact q
  · have e := ((h.holds_iff q1 (by unfold isU; omega)).1 q).2
    have f := h2 (by omega)
    have g := Int.mul_le_mul_of_nonneg_right (show m ≤ n - 1 by omega) h3
    omega

theorem up_spec {k d n : Int} (hd : 0 < d) (hk : 0 ≤ k) (h : upV k d = n) : k ≤ n * d ∧ (0 < n → (n - 1) * d < k) ∧ 0 ≤ n := by
  have hm := Int.mul_ediv_add_emod k d
  have h0 := Int.emod_nonneg k (show d ≠ 0 by omega)
  have h1 := Int.emod_lt_of_pos k hd
  have h2 : 0 ≤ k / d := Int.ediv_nonneg hk (by omega)
  unfold upV at h
  rw [if_neg (by omega)] at h
  rw [Int.mul_comm] at hm
  split at h
  · subst h
    rw [Int.sub_mul]
    omega
  · subst h
    rw [show k / d + 1 - 1 = k / d by omega, Int.add_mul]
    omega
theorem vol_more {pe l p l' p' : Int} (h0 : 0 ≤ p) (h1 : p < pe) (h0' : 0 ≤ p') (h1' : p' < pe) : vol pe l' p' ≤ vol pe l p ↔ l > l' ∨ (l = l' ∧ p ≥ p') := by
  constructor
  · intro h
    have a := (vol_ge (c := l') (le := l) h0 h1).2 (by unfold vol at h ⊢; omega)
    by_cases e : l = l'
    · subst e
      unfold vol at h
      exact .inr ⟨rfl, by omega⟩
    · exact .inl (by omega)
  · rintro (h | ⟨rfl, h⟩)
    · have := (vol_ge (c := l' + 1) (le := l) h0 h1).1 (by omega)
      rw [Int.add_mul, Int.one_mul] at this
      unfold vol at this ⊢
      omega
    · unfold vol
      omega
/-- A bucket that holds no more never holds more: refilled, charged, waiting. -/
theorem more_filled {bu ra pe l p l' p' a t : Int} (h : Buc bu ra pe l p a) (h' : Buc bu ra pe l' p' a) (hv : vol pe l' p' ≤ vol pe l p) :
    vol pe (filL bu ra pe l' p' a t) (filP bu ra pe l' p' a t) ≤ vol pe (filL bu ra pe l p a t) (filP bu ra pe l p a t) := by
  by_cases c : t < a
  · unfold filL filP
    rw [if_pos c, if_pos c, if_pos c, if_pos c]
    exact hv
  · rw [h.vol_filled (by omega), h'.vol_filled (by omega), Int.min_def, Int.min_def]
    split <;> split <;> omega
theorem vol_charged (pe l p c : Int) : vol pe (l - c) p = vol pe l p - c * pe := by unfold vol; rw [Int.sub_mul]; omega
theorem more_wait {bu ra pe l p l' p' a c n n' : Int} (h : Buc bu ra pe l p a) (h' : Buc bu ra pe l' p' a) (hv : vol pe l' p' ≤ vol pe l p) (w : IsWait bu ra pe l p a c n) (w' : IsWait bu ra pe l' p' a c n') : n ≤ n' := by
  rcases w'.is with ⟨e, _⟩ | ⟨b1, l1, _⟩
  · have := w.num.2
    omega
  · have hn := w'.num
    have ht := h.tick
    unfold isU at hn ht
    have k := (h'.holds_iff hn.1 (by unfold isU; omega)).1 l1
    have k2 := (h.holds_iff (c := c) hn.1 (by unfold isU; omega)).2 ⟨k.1, by omega⟩
    rcases w.is with ⟨e, f⟩ | ⟨b2, l2, m2⟩
    · have := filL_mono (t1 := a + n') (t2 := 18446744073709551615) h (by omega) (by omega)
      omega
    · rcases Int.lt_or_le n' n with q | q
      · have := m2 n' hn.1 q
        omega
      · exact q
theorem Buc.charged {bu ra pe l p a c : Int} (h : Buc bu ra pe l p a) (h0 : 0 ≤ c) (h1 : c ≤ l) : Buc bu ra pe (l - c) p a :=
  ⟨h.lim, by omega, by have := h.l1; omega, h.q0, h.q1, fun e => h.top (by have := h.l1; omega), h.tick⟩
theorem Buc.full {bu ra pe t : Int} (h : limE bu ra pe = 0) (ht : isU t) : Buc bu ra pe bu 0 t := by
  obtain ⟨h1, _, _, _, h5, _⟩ := limE_zero h
  exact ⟨h, by omega, by omega, by omega, by omega, fun _ => rfl, ht⟩

end Go.Proofs.Ytegbcagcfmijcaa
