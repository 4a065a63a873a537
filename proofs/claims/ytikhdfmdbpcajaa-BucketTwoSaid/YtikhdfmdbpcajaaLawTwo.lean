/-
  For any bucket and any two ticks BucketTwo returns true and leaves its arguments as they were. Conditions: none.
-/
import Derived.Test.YtikhdfmdbpcajaaTwo03
import Derived.Test.YtikhdfmdbpcajaaTwoP03
import Derived.Test.YtikhdfmdbpcajaaLaw03
namespace Go.Proofs.Ytikhdfmdbpcajaa
open Go.ChangeShapes Go.WideShapes Go.ChangeAt Go.RowKit Go.Joins

theorem wN0 (x : Int) : wN 0 x = x := by unfold wN; omega
theorem two_any {bu ra pe le pt a s t : Int} (ha : isU a) (hs : isU s) (ht : isU t) (w : World) :
    Calls Try.prog 6 #[.agg #[.int .i64 bu, .int .i64 ra, .int .i64 pe, .int .i64 le, .int .i64 pt, .int .u64 a], .int .u64 s, .int .u64 t] w fun e w' => e = .returned (.bool true) ∧ Below w.heap.size w w' := by
  rcases bucE_two bu ra pe le pt with h | h
  · have hb := Buc.of h ha
    rcases Int.lt_or_le s a with q | q
    · exact two_s (Lib.hid h) q w
    · rcases Int.lt_or_le t s with q2 | q2
      · exact two_t (Lib.hid h) q q2 w
      · have hc := hb.filled hs
        have hd := hb.filled ht
        rw [show filA a s = s from if_neg (by omega)] at hc
        rw [show filA a t = t from if_neg (by omega)] at hd
        have h2 := hb.two hs q q2 ht
        rw [show filA a s = s from if_neg (by omega)] at h2
        have hm := filL_mono hb q q2
        have hv := hb.vol_filled (show a ≤ t by omega)
        have v0 := hb.vol0
        have w0 := hd.vol0
        obtain ⟨z1, z2, z3, z4, z5, z6⟩ := hb.nums
        have r0 := fil_range z3 z4 ha ht (show a ≤ t by omega) hb.q0 (by have := hb.q1; omega)
        have r1 : bu * pe ≤ 1000000000 * 1000000000 := Int.mul_le_mul z2 z6 (by omega) (by omega)
        have hvl : vol pe le pt = le * pe + pt := rfl
        have q0 := hb.q0
        have q1 := hb.q1
        have l0 := Int.mul_nonneg hb.l0 (show 0 ≤ pe by omega)
        obtain ⟨L1, e1⟩ : ∃ x, filL bu ra pe le pt a s = x := ⟨_, rfl⟩
        obtain ⟨P1, e2⟩ : ∃ x, filP bu ra pe le pt a s = x := ⟨_, rfl⟩
        obtain ⟨L2, e3⟩ : ∃ x, filL bu ra pe le pt a t = x := ⟨_, rfl⟩
        obtain ⟨P2, e4⟩ : ∃ x, filP bu ra pe le pt a t = x := ⟨_, rfl⟩
        rw [e1, e2] at hc
        rw [e3, e4] at hd hv w0
        rw [e1, e2, e3, e4] at h2
        rw [e1, e3] at hm
        have hvl2 : vol pe L2 P2 = L2 * pe + P2 := rfl
        have l2 := Int.mul_nonneg hd.l0 (show 0 ≤ pe by omega)
        have p0 := hd.q0
        have p1 := hd.q1
        obtain ⟨g, eg⟩ : ∃ x, (t - a) * ra = x := ⟨_, rfl⟩
        rw [eg] at r0 hv
        have M2 := Lib.hid (show (t - a) * ra = wN (wHi g) (wLo g) by rw [wN_parts]; exact eg)
        have n3 : isU (wHi g) := isU_hi (by unfold isW; omega)
        have hA2 : wN 0 (vol pe le pt) + wN (wHi g) (wLo g) = vol pe le pt + g := by rw [wN0, wN_parts]
        rcases Int.lt_or_le (vol pe le pt + g) (bu * pe) with c | c
        · have hv2 : vol pe L2 P2 = vol pe le pt + g := by rw [hv]; exact Int.min_eq_left (by omega)
          exact two_part hb hc hd q q2 (Lib.hid e1) (Lib.hid e2) (Lib.hid h2.1) (Lib.hid h2.2) (Lib.hid e3) (Lib.hid e4) hm
            (lp := le * pe) (v := vol pe le pt) (nv := vol pe le pt + g) (lq := L2 * pe) (tp := bu * pe) (cc := cmpI (vol pe le pt + g) (bu * pe))
            (Lib.hid (by rw [wN0])) (Lib.hid (by rw [wN0, wN0, wN0, hvl])) M2 (Lib.hid (by rw [hA2, wN0])) (Lib.hid (by rw [wN0])) (Lib.hid (by rw [wN0, wN0, wN0, ← hv2, hvl2])) (Lib.hid (by rw [wN0])) (Lib.hid (by rw [wN0, wN0]))
            (decide_eq_false (by unfold cmpI; rw [if_pos c]; omega)) (by unfold isU; omega) (by unfold isU; omega) n3 (isU_lo _) u0 (by unfold isU; omega) (by unfold isU; omega) (by unfold isU; omega) (by unfold isU; omega) w
        · have hv2 : vol pe L2 P2 = bu * pe := by rw [hv]; exact Int.min_eq_right (by omega)
          obtain ⟨e5, e6⟩ := vol_inj p0 p1 (show 0 ≤ (0 : Int) by omega) (show (0 : Int) < pe by omega) (show vol pe L2 P2 = vol pe bu 0 by rw [hv2]; unfold vol; omega)
          subst e5 e6
          exact two_full hb hc hd q q2 (Lib.hid e1) (Lib.hid e2) (Lib.hid h2.1) (Lib.hid h2.2) (Lib.hid e3) (Lib.hid e4) hm
            (lp := le * pe) (v := vol pe le pt) (ah := wHi (vol pe le pt + g)) (al := wLo (vol pe le pt + g)) (lq := L2 * pe) (tp := L2 * pe) (cc := cmpI (vol pe le pt + g) (L2 * pe))
            (Lib.hid (by rw [wN0])) (Lib.hid (by rw [wN0, wN0, wN0, hvl])) M2 (Lib.hid (by rw [hA2, wN_parts])) (Lib.hid (by rw [wN0])) (Lib.hid (by rw [wN0, wN0]; omega)) (Lib.hid (by rw [wN0])) (Lib.hid (by rw [wN0, wN_parts]))
            (decide_eq_true (by unfold cmpI; rw [if_neg (by omega)]; split <;> omega)) (by unfold isU; omega) (by unfold isU; omega) n3 (isU_lo _) (isU_hi (by unfold isW; omega)) (isU_lo _) (by unfold isU; omega) (by unfold isU; omega) (by unfold isU; omega) w
  · exact two_bad (Lib.hid h) w
theorem two_walk : LawWalk Try.prog 6 Try.f6 := by
  intro H enc W base args ds ps hval hA _ _
  rw [Try.params6] at hA hval
  obtain ⟨v0, vs0, d0, ds0, p0, q0, hargs, rfl, rfl, h0, r0⟩ := trodAll_cons hA
  obtain ⟨v1, vs1, d1, ds1, p1, q1, rfl, rfl, rfl, h1, r1⟩ := trodAll_cons r0
  obtain ⟨v2, vs2, d2, ds2, p2, q2, rfl, rfl, rfl, h2, r2⟩ := trodAll_cons r1
  obtain ⟨rfl, rfl, rfl⟩ := trodAll_nil r2
  obtain rfl : args = #[v0, v1, v2] := by cases args; simp_all
  obtain ⟨b0, b1, b2, b3, b4, b5, rfl, hb⟩ := open_bucket (hval 0 _ v0 rfl rfl) h0
  obtain ⟨s, rfl, hs⟩ := open_u (hval 1 _ v1 rfl rfl) h1
  obtain ⟨t, rfl, ht⟩ := open_u (hval 2 _ v2 rfl rfl) h2
  exact two_any hb hs ht W

set_option maxRecDepth 100000 in
theorem two_lifted (os : Os) (started : os.Started) (H : Type) (enc : TypeId × Value → H) :
    ReturnsInHanded {} Try.checked os 6 .any (Rows.bucketTwoSpec.pre6 enc Try.prog Try.f6 Rows.bucketTwoRow.domain false) (Rows.bucketTwoSpec.post enc Try.prog Try.f6 false true false false) :=
  law_lifted (C := Try.checked) (s := Rows.bucketTwoSpec) (conds := Rows.bucketTwoRow.domain) (tb := 4) own laidOut started (by kernel_rfl) Try.func6
    (ChangeSpec.witness6 (enc := enc) (C := Try.checked) false ⟨#[], #[(.agg #[.int .i64 0, .int .i64 0, .int .i64 0, .int .i64 0, .int .i64 0, .int .u64 0]), (.int .u64 0), (.int .u64 0)], []⟩ 8 (by kernel_rfl) (by kernel_rfl) (by kernel_rfl) (by kernel_rfl))
    (by rw [show Try.f6.params = _ from Try.params6]; decide +kernel) (by kernel_rfl) Try.underlying4 rfl
    (fun ds hl => by
      rw [show Try.f6.params = _ from Try.params6] at hl
      match ds, hl with
      | [_, _, _], _ => rfl) two_walk

set_option maxRecDepth 100000 in
theorem two_over : Rows.bucketTwoRow.holds Try.pinned (OpenSpec.ofChange Rows.bucketTwoSpec) :=
  OpenClaim.holds_of_wide 6 Try.f6 rfl rfl rfl rfl rfl rfl rfl ⟨rfl, rfl, rfl, rfl, rfl⟩ rfl rfl rfl rfl rfl (by kernel_rfl) Try.func6 (by kernel_rfl)
    (of_decide_eq_true (by kernel_rfl)) (by unfold Func.isWrapper; first | (rw [if_pos (by decide +kernel)]; kernel_rfl) | (rw [if_neg (by decide +kernel)]; exact ⟨rfl, rfl⟩))
    (fun os started H enc _ => two_lifted os started H enc)

/-- The given statement. -/
theorem two_holds : Rows.BucketTwoSaid := two_over
#print axioms two_holds

end Go.Proofs.Ytikhdfmdbpcajaa
