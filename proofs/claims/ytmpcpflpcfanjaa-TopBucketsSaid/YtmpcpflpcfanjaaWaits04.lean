/-
  LevelsWaits, walked over the contracts of package levels: it returns true.
-/
import Derived.Test.YtmpcpflpcfanjaaLev04D
namespace Go.Proofs.Ytmpcpflpcfanjaa
open Go.RowKit

theorem foldl_max : ∀ (l : List Int) (m : Int), m ≤ l.foldl max m ∧ (∀ x ∈ l, x ≤ l.foldl max m) ∧ (l.foldl max m = m ∨ l.foldl max m ∈ l) := by
  intro l
  induction l with
  | nil => intro m; exact ⟨Int.le_refl _, fun x hx => absurd hx (by simp), .inl rfl⟩
  | cons y l ih =>
    intro m
    obtain ⟨h1, h2, h3⟩ := ih (max m y)
    have e : (y :: l).foldl max m = l.foldl max (max m y) := rfl
    rw [e]
    refine ⟨by omega, fun x hx => ?_, ?_⟩
    · rcases List.mem_cons.1 hx with rfl | hx
      · omega
      · exact h2 x hx
    · rcases h3 with h3 | h3
      · rw [h3]
        by_cases q : m ≤ y
        · exact .inr (List.mem_cons.2 (.inl (by omega)))
        · exact .inl (by omega)
      · exact .inr (List.mem_cons.2 (.inr h3))
theorem wts_max (c : Int) (bs : List Bk) : 0 ≤ wts c bs ∧ (∀ b ∈ bs, b.wt c ≤ wts c bs) ∧ (wts c bs = 0 ∨ ∃ b ∈ bs, b.wt c = wts c bs) := by
  obtain ⟨h1, h2, h3⟩ := foldl_max (bs.map (Bk.wt c)) 0
  refine ⟨h1, fun b hb => h2 _ (List.mem_map_of_mem hb), ?_⟩
  rcases h3 with h3 | h3
  · exact .inl h3
  · obtain ⟨b, hb, e⟩ := List.mem_map.1 h3
    exact .inr ⟨b, hb, e⟩
/-- A bucket's wait is never the last tick by chance. -/
theorem wt_cases {b : Bk} (hb : b.Ok) (c : Int) : (b.wt c = 18446744073709551615 ∧ filL b.bu b.ra b.pe b.le b.pt b.a 18446744073709551615 < c) ∨
    (0 ≤ b.wt c ∧ b.wt c ≤ 1000000000000000000 ∧ b.wt c ≤ 18446744073709551615 - b.a ∧ c ≤ filL b.bu b.ra b.pe b.le b.pt b.a (b.a + b.wt c) ∧ ∀ m, 0 ≤ m → m < b.wt c → filL b.bu b.ra b.pe b.le b.pt b.a (b.a + m) < c) := by
  have hw := hb.wt c
  have hb : Buc b.bu b.ra b.pe b.le b.pt b.a := hb
  obtain ⟨z1, z2, z3, z4, z5, z6⟩ := hb.nums
  have ht := hb.tick
  unfold isU at ht
  obtain ⟨n, en⟩ : ∃ n, b.wt c = n := ⟨_, rfl⟩
  rw [en] at hw ⊢
  have hn := hw.num
  unfold isU at hn
  rcases hw.is with ⟨e, f⟩ | ⟨b1, l1, m1⟩
  · exact .inl ⟨e, f⟩
  · refine .inr ⟨hn.1, ?_, b1, l1, m1⟩
    rcases Int.lt_or_le 1000000000000000000 n with q | q
    · exfalso
      obtain ⟨k1, k2⟩ := (hb.holds_iff hn.1 (by unfold isU; omega)).1 l1
      have hm := m1 1000000000000000000 (by omega) q
      have hv := hb.vol0.1
      have hp : c * b.pe ≤ 1000000000000000000 := by
        rcases Int.lt_or_le c 0 with z | z
        · have := Int.mul_nonneg (show 0 ≤ -c by omega) (show 0 ≤ b.pe by omega)
          rw [Int.neg_mul] at this
          omega
        · exact Int.mul_le_mul (show c ≤ 1000000000 by omega) z6 (by omega) (by omega)
      rcases Int.lt_or_le 0 b.ra with z | z
      · have h1 : 1000000000000000000 * 1 ≤ 1000000000000000000 * b.ra := Int.mul_le_mul_of_nonneg_left (show 1 ≤ b.ra by omega) (by omega)
        have := (hb.holds_iff (c := c) (n := 1000000000000000000) (by omega) (by unfold isU; omega)).2 ⟨k1, by omega⟩
        omega
      · have hz : b.ra = 0 := by omega
        rw [hz, Int.mul_zero] at k2
        have := (hb.holds_iff (c := c) (n := 0) (by omega) (by unfold isU; omega)).2 ⟨k1, by omega⟩
        have := m1 0 (by omega) (by omega)
        omega
    · exact q
/-- The wait of a row whose buckets are at one tick. -/
theorem row_wait {bs : List Bk} {c A : Int} (hr : Row bs) (hA : ∀ b ∈ bs, b.a = A) :
    (wts c bs = 18446744073709551615 ∧ holdB c (bs.map (Bk.fil 18446744073709551615)) = false) ∨
    (0 ≤ wts c bs ∧ wts c bs ≠ 18446744073709551615 ∧ (bs ≠ [] → wts c bs ≤ 18446744073709551615 - A) ∧ holdB c (bs.map (Bk.fil (A + wts c bs))) = true ∧ (0 < wts c bs → holdB c (bs.map (Bk.fil (A + wts c bs - 1))) = false)) := by
  obtain ⟨m1, m2, m3⟩ := wts_max c bs
  obtain ⟨n, en⟩ : ∃ n, wts c bs = n := ⟨_, rfl⟩
  rw [en] at m1 m2 m3 ⊢
  have no : ∀ b ∈ bs, ∀ t, filL b.bu b.ra b.pe b.le b.pt b.a t < c → holdB c (bs.map (Bk.fil t)) = false := fun b hb t h => by
    cases e : holdB c (bs.map (Bk.fil t)) with
    | false => rfl
    | true =>
      have := holdB_yes e (b.fil t) (List.mem_map_of_mem hb)
      have e2 : (b.fil t).le = filL b.bu b.ra b.pe b.le b.pt b.a t := rfl
      omega
  by_cases q : ∃ b ∈ bs, b.wt c = 18446744073709551615
  · obtain ⟨b, hb, e⟩ := q
    left
    have h1 := m2 b hb
    rcases wt_cases (hr.ok b hb) c with ⟨_, f⟩ | ⟨_, f, _⟩
    · refine ⟨?_, no b hb _ f⟩
      rcases m3 with m3 | ⟨b', hb', e'⟩
      · omega
      · have := ((hr.ok b' hb').wt c).num.2
        omega
    · omega
  · right
    have yes : ∀ b ∈ bs, 0 ≤ b.wt c ∧ b.wt c ≤ 1000000000000000000 ∧ b.wt c ≤ 18446744073709551615 - A ∧ c ≤ filL b.bu b.ra b.pe b.le b.pt b.a (A + b.wt c) ∧ ∀ m, 0 ≤ m → m < b.wt c → filL b.bu b.ra b.pe b.le b.pt b.a (A + m) < c := fun b hb => by
      rw [← hA b hb]
      rcases wt_cases (hr.ok b hb) c with ⟨e, _⟩ | h
      · exact absurd ⟨b, hb, e⟩ q
      · exact h
    have hn : n ≤ 1000000000000000000 := by
      rcases m3 with m3 | ⟨b', hb', e'⟩
      · omega
      · have := (yes b' hb').2.1
        omega
    refine ⟨m1, by omega, fun hne => ?_, holdB_mk fun x hx => ?_, fun h0 => ?_⟩
    · rcases m3 with m3 | ⟨b', hb', e'⟩
      · obtain ⟨b, hb⟩ := List.exists_mem_of_ne_nil bs hne
        have := (hr.ok b hb).tick.2
        have := hA b hb
        omega
      · have := (yes b' hb').2.2.1
        omega
    · obtain ⟨b, hb, rfl⟩ := List.mem_map.1 hx
      have h1 := (yes b hb)
      have h2 := filL_mono (hr.ok b hb) (t1 := A + b.wt c) (t2 := A + n) (by have := hA b hb; omega) (by have := m2 b hb; omega)
      have e2 : (b.fil (A + n)).le = filL b.bu b.ra b.pe b.le b.pt b.a (A + n) := rfl
      omega
    · rcases m3 with m3 | ⟨b', hb', e'⟩
      · omega
      · have := (yes b' hb').2.2.2.2 (n - 1) (by omega) (by omega)
        rw [show A + (n - 1) = A + n - 1 by omega] at this
        exact no b' hb' _ this

set_option maxRecDepth 100000 in
set_option maxHeartbeats 6400000 in
theorem waits4_bad {bs : List Bk} {c : Int} {v : Value} {w : World} (h : rowE bs ≠ 0) (h1 : IsB w v bs) :
    Calls Try.prog 8 #[v, .int .i64 c] w fun e w' => e = .returned (.bool true) ∧ Below w.heap.size w w' := by
  go_enter Try.func8, Try.ntmps8
  go_wp2_with fail
  refine (fit_no h h1).mono ?_
  rintro e w1 ⟨rfl, hb⟩
  have hB1 : Below w.heap.size w w1 := below_thru (by go_grown) hb
  have hs1 := hB1.size
  clear hb
  go_wp2_with fail
  refine (alive04_any _).mono ?_
  rintro e w2 ⟨rfl, hb⟩
  have hB2 : Below w.heap.size w w2 := below_thru (by go_grown) hb
  have hs2 := hB2.size
  clear hb
  clear hB1 hs1
  go_wp2_with fail
  go_returns
  exact ⟨rfl, hB2⟩

set_option maxRecDepth 100000 in
set_option maxHeartbeats 6400000 in
theorem waits4_nil {bs : List Bk} {c : Int} {v : Value} {w : World} (h : rowE bs = 0) (hl : bs.length = 0) (h1 : IsB w v bs) :
    Calls Try.prog 8 #[v, .int .i64 c] w fun e w' => e = .returned (.bool true) ∧ Below w.heap.size w w' := by
  obtain ⟨at0, cap, rfl, hb⟩ := h1
  have i1 := hb.room
  have i2 := hb.most
  have h1 : IsB w (.slice at0 bs.length cap) bs := ⟨at0, cap, rfl, hb⟩
  have H1 := Lib.hid h1
  clear h1 hb
  have d1 : ((bs.length : Int) == 0) = true := by simp [hl]
  have d1' : (bs.length == 0) = true := by simp [hl]
  have HL := Lib.hid hl
  clear hl
  go_enter Try.func8, Try.ntmps8
  go_wp2_with fail
  refine (fit_yes h H1.out).mono ?_
  rintro e w1 ⟨rfl, hb⟩
  have hB1 : Below w.heap.size w w1 := below_thru (by go_grown) hb
  have hs1 := hB1.size
  clear hb
  go_wp2_with fail
  refine (alive04_any _).mono ?_
  rintro e w2 ⟨rfl, hb⟩
  have hB2 : Below w.heap.size w w2 := below_thru (by go_grown) hb
  have hs2 := hB2.size
  clear hb
  clear hB1 hs1
  go_wp2_with fail
  go_returns
  exact ⟨rfl, hB2⟩

set_option maxRecDepth 100000 in
set_option maxHeartbeats 6400000 in
theorem waits4_neg {bs : List Bk} {c : Int} {v : Value} {w : World} (h : rowE bs = 0) (hl : 0 < bs.length) (hc : c < 0) (h1 : IsB w v bs) :
    Calls Try.prog 8 #[v, .int .i64 c] w fun e w' => e = .returned (.bool true) ∧ Below w.heap.size w w' := by
  obtain ⟨at0, cap, rfl, hb⟩ := h1
  have i1 := hb.room
  have i2 := hb.most
  have h1 : IsB w (.slice at0 bs.length cap) bs := ⟨at0, cap, rfl, hb⟩
  have H1 := Lib.hid h1
  clear h1 hb
  have d1 : ((bs.length : Int) == 0) = false := beq_eq_false_iff_ne.2 (by omega)
  have d2 : decide (c < 0) = true := decide_eq_true hc
  go_enter Try.func8, Try.ntmps8
  go_wp2_with fail
  refine (fit_yes h H1.out).mono ?_
  rintro e w1 ⟨rfl, hb⟩
  have hB1 : Below w.heap.size w w1 := below_thru (by go_grown) hb
  have hs1 := hB1.size
  clear hb
  go_wp2_with fail
  refine (alive04_any _).mono ?_
  rintro e w2 ⟨rfl, hb⟩
  have hB2 : Below w.heap.size w w2 := below_thru (by go_grown) hb
  have hs2 := hB2.size
  clear hb
  clear hB1 hs1
  go_wp2_with fail
  go_returns
  exact ⟨rfl, hB2⟩

set_option maxRecDepth 100000 in
set_option maxHeartbeats 6400000 in
theorem waits4_main {bs : List Bk} {c : Int} {v : Value} {w : World} (hr : Row bs) (hl : 0 < bs.length) (hc : 0 ≤ c) (h1 : IsB w v bs) :
    Calls Try.prog 8 #[v, .int .i64 c] w fun e w' => e = .returned (.bool true) ∧ Below w.heap.size w w' := by
  obtain ⟨at0, cap, rfl, hb⟩ := h1
  have i1 := hb.room
  have i2 := hb.most
  have h1 : IsB w (.slice at0 bs.length cap) bs := ⟨at0, cap, rfl, hb⟩
  have H1 := Lib.hid h1
  have HB := Lib.hid hb
  have HR := Lib.hid hr
  clear h1 hb hr
  obtain ⟨b0, off0, bu0, ra0, pe0, le0, pt0, A, rfl, ebk0, C00, C01, C02, C03, C04, C05⟩ := HB.out.at hl
  have z0 := lt_of_cell C00
  clear C00 C01 C02 C03 C04
  have EB := Lib.hid ebk0
  clear ebk0
  have d1 : ((bs.length : Int) == 0) = false := beq_eq_false_iff_ne.2 (by omega)
  have d2 : decide (c < 0) = false := decide_eq_false (by omega)
  go_enter Try.func8, Try.ntmps8
  go_wp2_with fail
  refine (fit_yes HR.out.e H1.out).mono ?_
  rintro e w1 ⟨rfl, hb⟩
  have hB1 : Below w.heap.size w w1 := below_thru (by go_grown) hb
  have hs1 := hB1.size
  have H1_ : Hid (IsB w1 (.slice (some ⟨b0, off0, none⟩) bs.length cap) bs) := Lib.hid (by first | exact H1.out.below hb | exact (H1.out.alloc _).below hb | exact ((H1.out.alloc _).alloc _).below hb | exact (((H1.out.alloc _).alloc _).alloc _).below hb | exact H1.out.drew.below hb)
  clear H1; have H1 := H1_; clear H1_
  clear hb
  have cA := cell_below hB1 C05
  rw [Nat.zero_mul] at cA
  have hA : (bk bs 0).a = A := by rw [EB.out]
  have tA : isU A := by have := (HR.out.at hl).tick; rw [hA] at this; exact this
  have tA0 := tA.1
  have tA1 := tA.2
  have HA := Lib.hid hA
  clear hA EB C05
  have hl' : (0 : Int) < (bs.length : Int) := by omega
  go_wp2_with fail
  go_loop [6] (fun s6 => ∃ k : Nat, s6 = .int .i64 k ∧ k ≤ bs.length ∧ Hid (∀ i, i < k → (bk bs i).a = A)) (fun s6 => bs.length - (intOf s6).toNat)
  case atStart => exact ⟨0, rfl, by omega, Lib.hid (fun i hi => by omega)⟩
  case round =>
    obtain ⟨k, rfl, hk, HE⟩ := hrel
    by_cases hlt : k < bs.length
    case pos =>
      obtain ⟨b, off, bu, ra, pe, le, pt, a, e9, ebk, C0, C1, C2, C3, C4, C5⟩ := HB.out.at hlt
      cases e9
      have c5 := cell_below hB1 C5
      have ha : (bk bs k).a = a := by rw [ebk]
      have HA2 := Lib.hid ha
      clear C0 C1 C2 C3 C4 C5 ebk ha
      by_cases hx : a = A
      · have HE2 := Lib.hid (show ∀ i, i < k + 1 → (bk bs i).a = A from fun i hi => by
          rcases Nat.lt_or_ge i k with z | z
          · exact HE.out i z
          · obtain rfl : i = k := by omega
            rw [HA2.out, hx])
        have d2 : (a != A) = false := by simp [hx]
        clear hx
        go_wp2_with fail
        go_round
        case rel => exact ⟨k + 1, by go_num, by omega, HE2⟩
        case measure => simp [intOf]; omega
      · have d2 : (a != A) = true := by simp [hx]
        clear hx
        go_wp2_with fail
        refine (alive04_any _).mono ?_
        rintro e w2 ⟨rfl, hb⟩
        have hB2 : Below w.heap.size w w2 := below_thru (by go_grown) hb
        clear hb
        go_wp2_with fail
        go_returns
        exact ⟨rfl, hB2⟩
    case neg =>
      have hall : ∀ b ∈ bs, b.a = A := fun b hb => by
        obtain ⟨i, hi, rfl⟩ := List.getElem_of_mem hb
        have := HE.out i (by omega)
        rwa [bk_get hi] at this
      have hrw := row_wait (c := c) HR.out hall
      obtain ⟨n, en⟩ : ∃ n, wts c bs = n := ⟨_, rfl⟩
      rw [en] at hrw
      have EN := Lib.hid en
      have hne : bs ≠ [] := fun q => by rw [q] at hl; exact absurd hl (by simp)
      clear en hall HE
      rcases hrw with ⟨hn, hh⟩ | ⟨hn0, hn1, hn2, hh, hz⟩
      · have HH := Lib.hid hh
        have d3 : (n == 18446744073709551615) = true := by simp [hn]
        have uM : isU 18446744073709551615 := by unfold isU; omega
        clear hh hn hne
        go_wp2_with fail
        refine (lwait_ok HR.out hc EN H1.out).mono ?_
        rintro e w2 ⟨rfl, hb⟩
        have hB2 : Below w.heap.size w w2 := below_thru (by go_grown) hb
        have hs2 := hB2.size
        have H1_ : Hid (IsB w2 (.slice (some ⟨b0, off0, none⟩) bs.length cap) bs) := Lib.hid (by first | exact H1.out.below hb | exact (H1.out.alloc _).below hb | exact ((H1.out.alloc _).alloc _).below hb | exact (((H1.out.alloc _).alloc _).alloc _).below hb | exact H1.out.drew.below hb)
        clear H1; have H1 := H1_; clear H1_
        clear hb
        clear hB1 hs1
        go_wp2_with fail
        refine (lrefill_ok HR.out uM H1.out).mono ?_
        rintro e w3 ⟨v3, rfl, ho, hb⟩
        have hB3 : Below w.heap.size w w3 := below_thru (by go_grown) hb
        have hs3 := hB3.size
        have H1_ : Hid (IsB w3 (.slice (some ⟨b0, off0, none⟩) bs.length cap) bs) := Lib.hid (by first | exact H1.out.below hb | exact (H1.out.alloc _).below hb | exact ((H1.out.alloc _).alloc _).below hb | exact (((H1.out.alloc _).alloc _).alloc _).below hb | exact H1.out.drew.below hb)
        clear H1; have H1 := H1_; clear H1_
        have O3 : Hid (OwnB w.heap.size w3 v3 (bs.map (Bk.fil 18446744073709551615))) := Lib.hid (ho.base (by first | omega | (simp; omega)))
        clear ho
        clear hb
        clear hB2 hs2
        go_wp2_with fail
        refine (lhold_ok (HR.out.fil uM).e hc HH O3.out.is).mono ?_
        rintro e w4 ⟨rfl, hb⟩
        have hB4 : Below w.heap.size w w4 := below_thru (by go_grown) hb
        have hs4 := hB4.size
        have H1_ : Hid (IsB w4 (.slice (some ⟨b0, off0, none⟩) bs.length cap) bs) := Lib.hid (by first | exact H1.out.below hb | exact (H1.out.alloc _).below hb | exact ((H1.out.alloc _).alloc _).below hb | exact (((H1.out.alloc _).alloc _).alloc _).below hb | exact H1.out.drew.below hb)
        clear H1; have H1 := H1_; clear H1_
        have O3_ : Hid (OwnB w.heap.size w4 v3 (bs.map (Bk.fil 18446744073709551615))) := Lib.hid (by first | exact O3.out.below hb | exact (O3.out.alloc _).below hb | exact ((O3.out.alloc _).alloc _).below hb | exact (((O3.out.alloc _).alloc _).alloc _).below hb | exact O3.out.drew.below hb)
        clear O3; have O3 := O3_; clear O3_
        clear hb
        clear hB3 hs3
        clear O3
        go_wp2_with fail
        refine (alive04_any _).mono ?_
        rintro e w5 ⟨rfl, hb⟩
        have hB5 : Below w.heap.size w w5 := below_thru (by go_grown) hb
        have hs5 := hB5.size
        have H1_ : Hid (IsB w5 (.slice (some ⟨b0, off0, none⟩) bs.length cap) bs) := Lib.hid (by first | exact H1.out.below hb | exact (H1.out.alloc _).below hb | exact ((H1.out.alloc _).alloc _).below hb | exact (((H1.out.alloc _).alloc _).alloc _).below hb | exact H1.out.drew.below hb)
        clear H1; have H1 := H1_; clear H1_
        clear hb
        clear hB4 hs4
        go_wp2_with fail
        go_returns
        exact ⟨rfl, hB5⟩
      · have HH := Lib.hid hh
        have hn2 := hn2 hne
        have d3 : (n == 18446744073709551615) = false := beq_eq_false_iff_ne.2 hn1
        have u1 : IntKind.u64.wrap (18446744073709551615 - A) = 18446744073709551615 - A := IntWalk.u64_in _ (by omega)
        have u2 : IntKind.u64.wrap (A + n) = A + n := IntWalk.u64_in _ (by omega)
        have u3 : IntKind.u64.wrap (A + n - 1) = A + n - 1 ∨ n = 0 := by
          by_cases q : n = 0
          · exact .inr q
          · exact .inl (IntWalk.u64_in _ (by omega))
        have d4 : decide (n > 18446744073709551615 - A) = false := decide_eq_false (by omega)
        have d4' : decide (18446744073709551615 - A < n) = false := decide_eq_false (by omega)
        have t1 : isU (A + n) := by unfold isU; omega
        clear hh hne
        by_cases hz0 : n = 0
        · have d5 : (n == 0) = true := by simp [hz0]
          clear hz u3 hz0
          go_wp2_with fail
          refine (lwait_ok HR.out hc EN H1.out).mono ?_
          rintro e w2 ⟨rfl, hb⟩
          have hB2 : Below w.heap.size w w2 := below_thru (by go_grown) hb
          have hs2 := hB2.size
          have H1_ : Hid (IsB w2 (.slice (some ⟨b0, off0, none⟩) bs.length cap) bs) := Lib.hid (by first | exact H1.out.below hb | exact (H1.out.alloc _).below hb | exact ((H1.out.alloc _).alloc _).below hb | exact (((H1.out.alloc _).alloc _).alloc _).below hb | exact H1.out.drew.below hb)
          clear H1; have H1 := H1_; clear H1_
          clear hb
          clear hB1 hs1
          go_wp2_with fail
          refine (lrefill_ok HR.out t1 H1.out).mono ?_
          rintro e w3 ⟨v3, rfl, ho, hb⟩
          have hB3 : Below w.heap.size w w3 := below_thru (by go_grown) hb
          have hs3 := hB3.size
          have H1_ : Hid (IsB w3 (.slice (some ⟨b0, off0, none⟩) bs.length cap) bs) := Lib.hid (by first | exact H1.out.below hb | exact (H1.out.alloc _).below hb | exact ((H1.out.alloc _).alloc _).below hb | exact (((H1.out.alloc _).alloc _).alloc _).below hb | exact H1.out.drew.below hb)
          clear H1; have H1 := H1_; clear H1_
          have O3 : Hid (OwnB w.heap.size w3 v3 (bs.map (Bk.fil (A + n)))) := Lib.hid (ho.base (by first | omega | (simp; omega)))
          clear ho
          clear hb
          clear hB2 hs2
          go_wp2_with fail
          refine (lhold_ok (HR.out.fil t1).e hc HH O3.out.is).mono ?_
          rintro e w4 ⟨rfl, hb⟩
          have hB4 : Below w.heap.size w w4 := below_thru (by go_grown) hb
          have hs4 := hB4.size
          have H1_ : Hid (IsB w4 (.slice (some ⟨b0, off0, none⟩) bs.length cap) bs) := Lib.hid (by first | exact H1.out.below hb | exact (H1.out.alloc _).below hb | exact ((H1.out.alloc _).alloc _).below hb | exact (((H1.out.alloc _).alloc _).alloc _).below hb | exact H1.out.drew.below hb)
          clear H1; have H1 := H1_; clear H1_
          have O3_ : Hid (OwnB w.heap.size w4 v3 (bs.map (Bk.fil (A + n)))) := Lib.hid (by first | exact O3.out.below hb | exact (O3.out.alloc _).below hb | exact ((O3.out.alloc _).alloc _).below hb | exact (((O3.out.alloc _).alloc _).alloc _).below hb | exact O3.out.drew.below hb)
          clear O3; have O3 := O3_; clear O3_
          clear hb
          clear hB3 hs3
          clear O3
          go_wp2_with fail
          refine (alive04_any _).mono ?_
          rintro e w5 ⟨rfl, hb⟩
          have hB5 : Below w.heap.size w w5 := below_thru (by go_grown) hb
          have hs5 := hB5.size
          have H1_ : Hid (IsB w5 (.slice (some ⟨b0, off0, none⟩) bs.length cap) bs) := Lib.hid (by first | exact H1.out.below hb | exact (H1.out.alloc _).below hb | exact ((H1.out.alloc _).alloc _).below hb | exact (((H1.out.alloc _).alloc _).alloc _).below hb | exact H1.out.drew.below hb)
          clear H1; have H1 := H1_; clear H1_
          clear hb
          clear hB4 hs4
          go_wp2_with fail
          go_returns
          exact ⟨rfl, hB5⟩
        · have d5 : (n == 0) = false := by simp [hz0]
          have HH2 := Lib.hid (hz (by omega))
          have t2 : isU (A + n - 1) := by unfold isU; omega
          have u4 : IntKind.u64.wrap (A + n - 1) = A + n - 1 := by rcases u3 with u | u
                                                                   · exact u
                                                                   · exact absurd u hz0
          clear hz u3 hz0
          go_wp2_with fail
          refine (lwait_ok HR.out hc EN H1.out).mono ?_
          rintro e w2 ⟨rfl, hb⟩
          have hB2 : Below w.heap.size w w2 := below_thru (by go_grown) hb
          have hs2 := hB2.size
          have H1_ : Hid (IsB w2 (.slice (some ⟨b0, off0, none⟩) bs.length cap) bs) := Lib.hid (by first | exact H1.out.below hb | exact (H1.out.alloc _).below hb | exact ((H1.out.alloc _).alloc _).below hb | exact (((H1.out.alloc _).alloc _).alloc _).below hb | exact H1.out.drew.below hb)
          clear H1; have H1 := H1_; clear H1_
          clear hb
          clear hB1 hs1
          go_wp2_with fail
          refine (lrefill_ok HR.out t1 H1.out).mono ?_
          rintro e w3 ⟨v3, rfl, ho, hb⟩
          have hB3 : Below w.heap.size w w3 := below_thru (by go_grown) hb
          have hs3 := hB3.size
          have H1_ : Hid (IsB w3 (.slice (some ⟨b0, off0, none⟩) bs.length cap) bs) := Lib.hid (by first | exact H1.out.below hb | exact (H1.out.alloc _).below hb | exact ((H1.out.alloc _).alloc _).below hb | exact (((H1.out.alloc _).alloc _).alloc _).below hb | exact H1.out.drew.below hb)
          clear H1; have H1 := H1_; clear H1_
          have O3 : Hid (OwnB w.heap.size w3 v3 (bs.map (Bk.fil (A + n)))) := Lib.hid (ho.base (by first | omega | (simp; omega)))
          clear ho
          clear hb
          clear hB2 hs2
          go_wp2_with fail
          refine (lhold_ok (HR.out.fil t1).e hc HH O3.out.is).mono ?_
          rintro e w4 ⟨rfl, hb⟩
          have hB4 : Below w.heap.size w w4 := below_thru (by go_grown) hb
          have hs4 := hB4.size
          have H1_ : Hid (IsB w4 (.slice (some ⟨b0, off0, none⟩) bs.length cap) bs) := Lib.hid (by first | exact H1.out.below hb | exact (H1.out.alloc _).below hb | exact ((H1.out.alloc _).alloc _).below hb | exact (((H1.out.alloc _).alloc _).alloc _).below hb | exact H1.out.drew.below hb)
          clear H1; have H1 := H1_; clear H1_
          have O3_ : Hid (OwnB w.heap.size w4 v3 (bs.map (Bk.fil (A + n)))) := Lib.hid (by first | exact O3.out.below hb | exact (O3.out.alloc _).below hb | exact ((O3.out.alloc _).alloc _).below hb | exact (((O3.out.alloc _).alloc _).alloc _).below hb | exact O3.out.drew.below hb)
          clear O3; have O3 := O3_; clear O3_
          clear hb
          clear hB3 hs3
          clear O3
          go_wp2_with fail
          refine (lrefill_ok HR.out t2 H1.out).mono ?_
          rintro e w5 ⟨v5, rfl, ho, hb⟩
          have hB5 : Below w.heap.size w w5 := below_thru (by go_grown) hb
          have hs5 := hB5.size
          have H1_ : Hid (IsB w5 (.slice (some ⟨b0, off0, none⟩) bs.length cap) bs) := Lib.hid (by first | exact H1.out.below hb | exact (H1.out.alloc _).below hb | exact ((H1.out.alloc _).alloc _).below hb | exact (((H1.out.alloc _).alloc _).alloc _).below hb | exact H1.out.drew.below hb)
          clear H1; have H1 := H1_; clear H1_
          have O5 : Hid (OwnB w.heap.size w5 v5 (bs.map (Bk.fil (A + n - 1)))) := Lib.hid (ho.base (by first | omega | (simp; omega)))
          clear ho
          clear hb
          clear hB4 hs4
          go_wp2_with fail
          refine (lhold_ok (HR.out.fil t2).e hc HH2 O5.out.is).mono ?_
          rintro e w6 ⟨rfl, hb⟩
          have hB6 : Below w.heap.size w w6 := below_thru (by go_grown) hb
          have hs6 := hB6.size
          have H1_ : Hid (IsB w6 (.slice (some ⟨b0, off0, none⟩) bs.length cap) bs) := Lib.hid (by first | exact H1.out.below hb | exact (H1.out.alloc _).below hb | exact ((H1.out.alloc _).alloc _).below hb | exact (((H1.out.alloc _).alloc _).alloc _).below hb | exact H1.out.drew.below hb)
          clear H1; have H1 := H1_; clear H1_
          have O5_ : Hid (OwnB w.heap.size w6 v5 (bs.map (Bk.fil (A + n - 1)))) := Lib.hid (by first | exact O5.out.below hb | exact (O5.out.alloc _).below hb | exact ((O5.out.alloc _).alloc _).below hb | exact (((O5.out.alloc _).alloc _).alloc _).below hb | exact O5.out.drew.below hb)
          clear O5; have O5 := O5_; clear O5_
          clear hb
          clear hB5 hs5
          clear O5
          go_wp2_with fail
          refine (alive04_any _).mono ?_
          rintro e w7 ⟨rfl, hb⟩
          have hB7 : Below w.heap.size w w7 := below_thru (by go_grown) hb
          have hs7 := hB7.size
          have H1_ : Hid (IsB w7 (.slice (some ⟨b0, off0, none⟩) bs.length cap) bs) := Lib.hid (by first | exact H1.out.below hb | exact (H1.out.alloc _).below hb | exact ((H1.out.alloc _).alloc _).below hb | exact (((H1.out.alloc _).alloc _).alloc _).below hb | exact H1.out.drew.below hb)
          clear H1; have H1 := H1_; clear H1_
          clear hb
          clear hB6 hs6
          go_wp2_with fail
          go_returns
          exact ⟨rfl, hB7⟩

end Go.Proofs.Ytmpcpflpcfanjaa
