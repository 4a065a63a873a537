/-
  Package levels, walked: Refill, Holds, Take, Wait.
-/
import Derived.Test.YtegbcagcfmijcaaLev04B
import Derived.Test.YtegbcagcfmijcaaBucketW
namespace Go.Proofs.Ytegbcagcfmijcaa
open Go.RowKit

/-- A bucket's wait for a cost; a row's. -/
def Bk.wt (c : Int) (b : Bk) : Int := if c ≤ b.le then 0 else if b.bu < c ∨ b.ra = 0 then 18446744073709551615 else if upV ((c - b.le) * b.pe - b.pt) b.ra ≤ 18446744073709551615 - b.a then upV ((c - b.le) * b.pe - b.pt) b.ra else 18446744073709551615
theorem Bk.Ok.wt {b : Bk} (hb : b.Ok) (c : Int) : IsWait b.bu b.ra b.pe b.le b.pt b.a c (b.wt c) := by
  obtain ⟨bu, ra, pe, le, pt, a⟩ := b
  have hb : Buc bu ra pe le pt a := hb
  show IsWait bu ra pe le pt a c (Bk.wt c ⟨bu, ra, pe, le, pt, a⟩)
  obtain ⟨z1, z2, z3, z4, z5, z6⟩ := hb.nums
  have hl0 := hb.l0
  have hq0 := hb.q0
  have hq1 := hb.q1
  have ht := hb.tick
  unfold isU at ht
  unfold Bk.wt
  dsimp only
  by_cases c1 : c ≤ le
  · rw [if_pos c1]
    exact isWait_zero hb c1
  · rw [if_neg c1]
    by_cases c2 : bu < c
    · rw [if_pos (.inl c2)]
      exact isWait_never hb (.inl c2)
    · have e1 : (c - le) * pe = c * pe - le * pe := Int.sub_mul c le pe
      have g2 : 1 * pe ≤ (c - le) * pe := Int.mul_le_mul_of_nonneg_right (by omega) (by omega)
      have hvol : vol pe le pt = le * pe + pt := rfl
      by_cases c3 : ra = 0
      · rw [if_pos (.inr c3)]
        exact isWait_never hb (.inr (by rw [c3, Int.mul_zero]; omega))
      · rw [if_neg (by omega)]
        obtain ⟨m, em⟩ : ∃ m, upV ((c - le) * pe - pt) ra = m := ⟨_, rfl⟩
        rw [em]
        obtain ⟨s1, s2, s3⟩ := up_spec (show 0 < ra by omega) (show 0 ≤ (c - le) * pe - pt by omega) em
        by_cases c4 : m ≤ 18446744073709551615 - a
        · rw [if_pos c4]
          exact isWait_some hb (by omega) s3 c4 (by omega) (fun q => by have := s2 q; omega)
        · rw [if_neg c4]
          have k1 : vol pe le pt + (18446744073709551615 - a) * ra < c * pe := by
            have := s2 (by omega)
            have := Int.mul_le_mul_of_nonneg_right (show 18446744073709551615 - a ≤ m - 1 by omega) z3
            omega
          exact isWait_never hb (.inr k1)
def wts (c : Int) (bs : List Bk) : Int := (bs.map (Bk.wt c)).foldl max 0
theorem wts_snoc (c : Int) (bs : List Bk) (b : Bk) : wts c (bs ++ [b]) = max (wts c bs) (b.wt c) := by
  unfold wts
  rw [List.map_append, List.foldl_append]
  rfl

/-- What is asked of a row and a cost: what the checks say. -/
theorem ret_u0 {a b : Int} (h : a = b) : Ending.returned (.tuple #[.int .u64 a, .int .i64 0]) = .returned (.tuple #[.int .u64 b, .int .i64 0]) := by rw [h]
theorem wrong_ne {n : Int} (h : n ≠ 0) : (n != 0) = true := by simp [h]

set_option maxRecDepth 100000 in
set_option maxHeartbeats 3200000 in
theorem lrefill_no {bs : List Bk} {n t : Int} {v : Value} {w : World} (h : Hid (rowE bs = n)) (hn : n ≠ 0) (h1 : IsB w v bs) :
    Calls Try.prog 5 #[v, .int .u64 t] w (GivesRE [] n w) := by
  have d1 := wrong_ne hn
  go_enter Try.func5, Try.ntmps5
  go_wp2_with fail
  refine (checkr_is h h1).mono ?_
  rintro e w1 ⟨rfl, hb⟩
  go_wp2_with fail
  go_returns
  exact ⟨_, rfl, OwnB.nil, hb⟩

set_option maxRecDepth 100000 in
set_option maxHeartbeats 3200000 in
theorem lrefill_ok {bs : List Bk} {t : Int} {v : Value} {w : World} (hr : Row bs) (ht : isU t) (h1 : IsB w v bs) :
    Calls Try.prog 5 #[v, .int .u64 t] w (GivesRE (bs.map (Bk.fil t)) 0 w) := by
  have h := Lib.hid hr.e
  have HR := Lib.hid hr
  have H0 := Lib.hid h1
  clear hr h1
  go_enter Try.func5, Try.ntmps5
  go_wp2_with fail
  refine (checkr_is h H0.out).mono ?_
  rintro e w1 ⟨rfl, hb⟩
  have hB1 : Below w.heap.size w w1 := below_thru (by go_grown) hb
  have hs1 := hB1.size
  have H1 : Hid (IsB w1 v bs) := Lib.hid (H0.out.below hb)
  clear hb
  go_wp2_with fail
  refine (refillr ht HR.out H1.out).mono ?_
  rintro e w2 ⟨v2, rfl, ho, hb⟩
  have hB2 : Below w.heap.size w w2 := below_thru (by go_grown) hb
  have hs2 := hB2.size
  have O2 : Hid (OwnB w.heap.size w2 v2 (bs.map (Bk.fil t))) := Lib.hid (ho.base (by first | omega | (simp; omega)))
  clear hb ho
  go_wp2_with fail
  go_returns
  exact ⟨_, rfl, O2.out, hB2⟩

set_option maxRecDepth 100000 in
set_option maxHeartbeats 3200000 in
theorem lhold_no {bs : List Bk} {n c : Int} {v : Value} {w : World} (h : Hid (askE bs c = n)) (hn : n ≠ 0) (h1 : IsB w v bs) :
    Calls Try.prog 7 #[v, .int .i64 c] w fun e w' => e = .returned (.tuple #[.bool false, .int .i64 n]) ∧ Below w.heap.size w w' := by
  obtain ⟨r, er⟩ : ∃ x, rowE bs = x := ⟨_, rfl⟩
  obtain ⟨q, eq⟩ : ∃ x, costE [c] = x := ⟨_, rfl⟩
  have HO := Lib.hid (show orI r q = n by rw [← er, ← eq]; exact h.out)
  have HE := Lib.hid er
  have HC := Lib.hid eq
  have H0 := Lib.hid h1
  have d1 := wrong_ne hn
  clear er eq h1
  go_enter Try.func7, Try.ntmps7
  go_wp2_with fail
  refine (checkr_is HE H0.out).mono ?_
  rintro e w1 ⟨rfl, hb⟩
  have hB1 : Below w.heap.size w w1 := below_thru (by go_grown) hb
  have hs1 := hB1.size
  have H1 : Hid (IsB w1 v bs) := Lib.hid (H0.out.below hb)
  clear hb
  go_wp2_with fail
  refine (costs_is _ HC ints_one).mono ?_
  rintro e _ ⟨rfl, rfl⟩
  go_wp2_with fail
  refine (ore_is _ _ HO (by go_cell) (by go_cell)).mono ?_
  rintro e _ ⟨rfl, rfl⟩
  go_wp2_with fail
  go_returns
  exact ⟨rfl, by go_grown⟩

set_option maxRecDepth 100000 in
set_option maxHeartbeats 3200000 in
theorem ltake_no {bs : List Bk} {n c t : Int} {v : Value} {w : World} (h : Hid (askE bs c = n)) (hn : n ≠ 0) (h1 : IsB w v bs) :
    Calls Try.prog 6 #[v, .int .u64 t, .int .i64 c] w (GivesRBE [] false n w) := by
  obtain ⟨r, er⟩ : ∃ x, rowE bs = x := ⟨_, rfl⟩
  obtain ⟨q, eq⟩ : ∃ x, costE [c] = x := ⟨_, rfl⟩
  have HO := Lib.hid (show orI r q = n by rw [← er, ← eq]; exact h.out)
  have HE := Lib.hid er
  have HC := Lib.hid eq
  have H0 := Lib.hid h1
  have d1 := wrong_ne hn
  clear er eq h1
  go_enter Try.func6, Try.ntmps6
  go_wp2_with fail
  refine (checkr_is HE H0.out).mono ?_
  rintro e w1 ⟨rfl, hb⟩
  have hB1 : Below w.heap.size w w1 := below_thru (by go_grown) hb
  have hs1 := hB1.size
  have H1 : Hid (IsB w1 v bs) := Lib.hid (H0.out.below hb)
  clear hb
  go_wp2_with fail
  refine (costs_is _ HC ints_one).mono ?_
  rintro e _ ⟨rfl, rfl⟩
  go_wp2_with fail
  refine (ore_is _ _ HO (by go_cell) (by go_cell)).mono ?_
  rintro e _ ⟨rfl, rfl⟩
  go_wp2_with fail
  go_returns
  exact ⟨_, rfl, OwnB.nil, by go_grown⟩

set_option maxRecDepth 100000 in
set_option maxHeartbeats 3200000 in
theorem lwait_no {bs : List Bk} {n c : Int} {v : Value} {w : World} (h : Hid (askE bs c = n)) (hn : n ≠ 0) (h1 : IsB w v bs) :
    Calls Try.prog 8 #[v, .int .i64 c] w fun e w' => e = .returned (.tuple #[.int .u64 0, .int .i64 n]) ∧ Below w.heap.size w w' := by
  obtain ⟨r, er⟩ : ∃ x, rowE bs = x := ⟨_, rfl⟩
  obtain ⟨q, eq⟩ : ∃ x, costE [c] = x := ⟨_, rfl⟩
  have HO := Lib.hid (show orI r q = n by rw [← er, ← eq]; exact h.out)
  have HE := Lib.hid er
  have HC := Lib.hid eq
  have H0 := Lib.hid h1
  have d1 := wrong_ne hn
  clear er eq h1
  go_enter Try.func8, Try.ntmps8
  go_wp2_with fail
  refine (checkr_is HE H0.out).mono ?_
  rintro e w1 ⟨rfl, hb⟩
  have hB1 : Below w.heap.size w w1 := below_thru (by go_grown) hb
  have hs1 := hB1.size
  have H1 : Hid (IsB w1 v bs) := Lib.hid (H0.out.below hb)
  clear hb
  go_wp2_with fail
  refine (costs_is _ HC ints_one).mono ?_
  rintro e _ ⟨rfl, rfl⟩
  go_wp2_with fail
  refine (ore_is _ _ HO (by go_cell) (by go_cell)).mono ?_
  rintro e _ ⟨rfl, rfl⟩
  go_wp2_with fail
  go_returns
  exact ⟨rfl, by go_grown⟩

set_option maxRecDepth 100000 in
set_option maxHeartbeats 3200000 in
theorem lhold_ok {bs : List Bk} {c : Int} {x : Bool} {v : Value} {w : World} (h : rowE bs = 0) (h0 : 0 ≤ c) (hx : Hid (holdB c bs = x)) (h1 : IsB w v bs) :
    Calls Try.prog 7 #[v, .int .i64 c] w fun e w' => e = .returned (.tuple #[.bool x, .int .i64 0]) ∧ Below w.heap.size w w' := by
  have HE := Lib.hid h
  have HC := Lib.hid (show costE [c] = 0 by rw [costE_one, if_neg (by omega)])
  have HO := Lib.hid (show orI 0 0 = 0 from rfl)
  have H0 := Lib.hid h1
  clear h h1
  go_enter Try.func7, Try.ntmps7
  go_wp2_with fail
  refine (checkr_is HE H0.out).mono ?_
  rintro e w1 ⟨rfl, hb⟩
  have hB1 : Below w.heap.size w w1 := below_thru (by go_grown) hb
  have hs1 := hB1.size
  have H1 : Hid (IsB w1 v bs) := Lib.hid (H0.out.below hb)
  clear hb
  go_wp2_with fail
  refine (costs_is _ HC ints_one).mono ?_
  rintro e _ ⟨rfl, rfl⟩
  go_wp2_with fail
  refine (ore_is _ _ HO (by go_cell) (by go_cell)).mono ?_
  rintro e _ ⟨rfl, rfl⟩
  go_wp2_with fail
  refine (holdr_is hx ((H1.out.alloc _).alloc _)).mono ?_
  rintro e w2 ⟨rfl, hb⟩
  have hB2 : Below w.heap.size w w2 := below_thru (by go_grown) hb
  clear hb
  go_wp2_with fail
  go_returns
  exact ⟨rfl, hB2⟩

set_option maxRecDepth 100000 in
set_option maxHeartbeats 3200000 in
theorem ltake_ok {bs zs : List Bk} {t c : Int} {x : Bool} {v : Value} {w : World} (hr : Row bs) (ht : isU t) (h0 : 0 ≤ c) (hv : Hid (takV bs t c = zs)) (hx : Hid (takB bs t c = x)) (h1 : IsB w v bs) :
    Calls Try.prog 6 #[v, .int .u64 t, .int .i64 c] w (GivesRBE zs x 0 w) := by
  have h := hr.e
  have HR := Lib.hid hr
  clear hr
  have HE := Lib.hid h
  have HC := Lib.hid (show costE [c] = 0 by rw [costE_one, if_neg (by omega)])
  have HO := Lib.hid (show orI 0 0 = 0 from rfl)
  have H0 := Lib.hid h1
  clear h h1
  go_enter Try.func6, Try.ntmps6
  go_wp2_with fail
  refine (checkr_is HE H0.out).mono ?_
  rintro e w1 ⟨rfl, hb⟩
  have hB1 : Below w.heap.size w w1 := below_thru (by go_grown) hb
  have hs1 := hB1.size
  have H1 : Hid (IsB w1 v bs) := Lib.hid (H0.out.below hb)
  clear hb
  go_wp2_with fail
  refine (costs_is _ HC ints_one).mono ?_
  rintro e _ ⟨rfl, rfl⟩
  go_wp2_with fail
  refine (ore_is _ _ HO (by go_cell) (by go_cell)).mono ?_
  rintro e _ ⟨rfl, rfl⟩
  go_wp2_with fail
  refine (taker_is HR.out ht h0 hv hx ((H1.out.alloc _).alloc _)).mono ?_
  rintro e w2 ⟨v2, rfl, ho, hb⟩
  have hB2 : Below w.heap.size w w2 := below_thru (by go_grown) hb
  have hs2 := hB2.size
  have O2 : Hid (OwnB w.heap.size w2 v2 (zs)) := Lib.hid (ho.base (by first | omega | (simp; omega)))
  clear hb ho
  go_wp2_with fail
  go_returns
  exact ⟨_, rfl, O2.out, hB2⟩

set_option maxRecDepth 100000 in
set_option maxHeartbeats 3200000 in
theorem lwait_ok {bs : List Bk} {c n : Int} {v : Value} {w : World} (hr : Row bs) (h0 : 0 ≤ c) (hn : Hid (wts c bs = n)) (h1 : IsB w v bs) :
    Calls Try.prog 8 #[v, .int .i64 c] w fun e w' => e = .returned (.tuple #[.int .u64 n, .int .i64 0]) ∧ Below w.heap.size w w' := by
  have h := hr.e
  have HR := Lib.hid hr
  clear hr
  have HE := Lib.hid h
  have HC := Lib.hid (show costE [c] = 0 by rw [costE_one, if_neg (by omega)])
  have HO := Lib.hid (show orI 0 0 = 0 from rfl)
  have H0 := Lib.hid h1
  clear h h1
  obtain ⟨at0, cap, rfl, hb⟩ := H0.out
  have i1 := hb.room
  have i2 := hb.most
  have HB := Lib.hid hb
  clear hb
  go_enter Try.func8, Try.ntmps8
  go_wp2_with fail
  refine (checkr_is HE H0.out).mono ?_
  rintro e w1 ⟨rfl, hb⟩
  have hB1 : Below w.heap.size w w1 := below_thru (by go_grown) hb
  have hs1 := hB1.size
  have H1 : Hid (IsB w1 (.slice at0 bs.length cap) bs) := Lib.hid (H0.out.below hb)
  clear hb
  go_wp2_with fail
  refine (costs_is _ HC ints_one).mono ?_
  rintro e _ ⟨rfl, rfl⟩
  go_wp2_with fail
  refine (ore_is _ _ HO (by go_cell) (by go_cell)).mono ?_
  rintro e _ ⟨rfl, rfl⟩
  go_wp2_with fail
  go_loopw [7, 24] (fun s7 s24 wr => ∃ (k : Nat) (m : Int), s7 = .int .u64 m ∧ s24 = .int .i64 k ∧ k ≤ bs.length ∧ Hid (wts c (bs.take k) = m) ∧ Below w.heap.size w wr) (fun _ s24 _ => bs.length - (intOf s24).toNat)
  case atStart => exact ⟨0, 0, rfl, rfl, by omega, Lib.hid rfl, by go_grown⟩
  case round =>
    obtain ⟨k, m, rfl, rfl, hk, HM, hB⟩ := hrel
    clear hB1 hs1 H1
    have hs := hB.size
    by_cases hlt : k < bs.length
    case neg =>
      have HN := Lib.hid (show m = n by
        obtain rfl : k = bs.length := by omega
        rw [← HM.out, List.take_length]
        exact hn.out)
      go_wp2_with fail
      go_returns
      exact ⟨ret_u0 HN.out, hB⟩
    case pos =>
      obtain ⟨b, off, bu, ra, pe, le, pt, a, rfl, ebk, C0, C1, C2, C3, C4, C5⟩ := HB.out.at hlt
      have zb := lt_of_cell C0
      have hbuc : Buc bu ra pe le pt a := by have := HR.out.at hlt; rw [ebk] at this; exact this
      have hwt : IsWait bu ra pe le pt a c (Bk.wt c ⟨bu, ra, pe, le, pt, a⟩) := by have := (HR.out.at hlt).wt c; rw [ebk] at this; exact this
      have hsn : wts c (bs.take (k + 1)) = max m (Bk.wt c ⟨bu, ra, pe, le, pt, a⟩) := by rw [take_succ_bk hlt, wts_snoc, HM.out, ebk]
      obtain ⟨y, ey⟩ : ∃ x, Bk.wt c ⟨bu, ra, pe, le, pt, a⟩ = x := ⟨_, rfl⟩
      rw [ey] at hwt hsn
      have HW := Lib.hid hwt
      have BU := Lib.hid hbuc
      clear hwt hbuc ey ebk
      have c0 := cell_below hB C0
      have c1 := cell_below hB C1
      have c2 := cell_below hB C2
      have c3 := cell_below hB C3
      have c4 := cell_below hB C4
      have c5 := cell_below hB C5
      have HS := Lib.hid hsn
      clear hsn
      go_wp2_with fail
      refine (wait_ok BU.out h0 HW _).mono ?_
      rintro e w2 ⟨rfl, hb⟩
      have hB2 : Below w.heap.size w w2 := below_thru (by go_grown) hb
      clear hb
      go_wp2_with fail
      go_roundw
      case rel => exact ⟨k + 1, _, rfl, by go_num, by omega, HS, hB2⟩
      case measure => simp [intOf]; omega

end Go.Proofs.Ytegbcagcfmijcaa
