/-
  ProbeSteps, walked.
-/
import Derived.Test.YtalfnmlbidohcaaPbH
namespace Go.Proofs.Ytalfnmlbidohcaa
open Go.RowKit

theorem look_cnt {x : List Cel} (hv : Valid x) {key : Int} {m : Nat} (hm : Look x key m) : m ≤ cnt x ∧ ((∃ i, Has x key i) → m + 1 ≤ cnt x) := by
  have hr := cnt_run hv.len (hom_lt key) (m := m) (by have := hm.1; omega) (fun n hn => (stp_f (hm.2.2 n hn)).1)
  refine ⟨hr, fun ⟨i, hi⟩ => ?_⟩
  have hl := hv.last hm hi.1 hi.2.1 hi.2.2
  exact cnt_run hv.len (hom_lt key) (m := m + 1) (by have := hm.1; omega) (fun n hn => by
    rcases Nat.lt_or_ge n m with q | q
    · exact (stp_f (hm.2.2 n q)).1
    · obtain rfl : n = m := by omega
      have : (hom key + n) % 16 = i := hl
      rw [this]
      exact hi.2.1)
/-- What the first look says. -/
theorem look_one {x : List Cel} {key : Int} {m : Nat} (hm : Look x key m) : (m = 0 ∧ (cel x (hom key)).u = false) ∨ (m = 0 ∧ (cel x (hom key)).u = true ∧ (cel x (hom key)).k = key) ∨ (0 < m ∧ (cel x (hom key)).u = true ∧ (cel x (hom key)).k ≠ key) := by
  have h0 : (hom key + 0) % 16 = hom key := by have := hom_lt key; omega
  rcases Nat.eq_zero_or_pos m with rfl | q
  · have := stp_t hm.2.1
    rw [h0] at this
    cases e : (cel x (hom key)).u with
    | false => exact Or.inl ⟨rfl, rfl⟩
    | true =>
      rcases this with r | r
      · rw [e] at r
        cases r
      · exact Or.inr (Or.inl ⟨rfl, rfl, r⟩)
  · have := stp_f (hm.2.2 0 q)
    rw [h0] at this
    exact Or.inr (Or.inr ⟨q, this⟩)

set_option maxRecDepth 100000 in
set_option maxHeartbeats 6400000 in
theorem steps14_a {v : Value} {x : List Cel} {key : Int} (hky : Keys x) (hv : ¬ Valid x) (w : World) (h1 : IsR LCel w v x) : Calls Try.prog 7 #[v, .int .u32 key] w fun e w' => e = .returned (.bool true) ∧ Below w.heap.size w w' := by
  have H1 := Lib.hid h1; have CK := fun (W : World) (u : Value) (h : IsR LCel W u x) => rchk_is (q := 8) hky W h (Or.inr ⟨rfl, hv⟩); have AL := fun W => alive14_is W; clear h1 hky hv
  have hB0 := Below.refl w.heap.size w
  have hs0 := hB0.size
  go_enter Try.func7, Try.ntmps7
  go_wp2_with fail
  refine (AL _).mono ?_
  rintro e w1 ⟨rfl, hb⟩
  have hB1 : Below w.heap.size w w1 := below_thru hB0 hb
  have hs1 := hB1.size
  clear hB0 hs0
  clear hb
  go_wp2_with fail
  refine (CK _ _ (H1.out.below hB1)).mono ?_
  rintro e w2 ⟨rfl, hb⟩
  have hB2 : Below w.heap.size w w2 := below_thru hB1 hb
  have hs2 := hB2.size
  clear hB1 hs1
  clear hb
  go_wp2_with fail
  go_returns
  exact ⟨rfl, hB2⟩

set_option maxRecDepth 100000 in
set_option maxHeartbeats 6400000 in
theorem steps14_b {v : Value} {x : List Cel} {key : Int} (hky : Keys x) (hkey : 0 ≤ key ∧ key ≤ 4294967295) (hv : Valid x) (hh : ∀ i, ¬ Has x key i) (w : World) (h1 : IsR LCel w v x) : Calls Try.prog 7 #[v, .int .u32 key] w fun e w' => e = .returned (.bool true) ∧ Below w.heap.size w w' := by
  have H1 := Lib.hid h1; have hl := hv.len; have CK := fun (W : World) (u : Value) (h : IsR LCel W u x) => rchk_is (q := 0) hky W h (Or.inl ⟨rfl, hv⟩); have AL := fun W => alive14_is W; obtain ⟨m, hm, m12⟩ := Look.ex hv.len hv.few key; have hc := look_cnt hv hm; have h1m := look_one hm; have h12 := hv.few
  have FI := fun (W : World) (u : Value) (h : IsR LCel W u x) => pfind_is (p := 0) (q := 6) (Or.inr (Or.inl ⟨hv, rfl, rfl, hh⟩)) W h; have hle : m + 1 ≤ cnt x + 1 := (by have := hc.1; omega)
  have ST := fun (W : World) (u : Value) (h : IsR LCel W u x) => pstep_is (Or.inr ⟨hv, rfl, m, hm, rfl⟩) W h; have CN := fun (W : World) (u : Value) (h : IsR LCel W u x) => rcnt_is hl W h; have RH := fun W => rhom_is hkey W
  obtain ⟨h, hh0⟩ : ∃ h, hom key = h := ⟨_, rfl⟩; have h16 := hom_lt key; rw [hh0] at RH h16 h1m; obtain ⟨M, hM⟩ : ∃ M, cnt x = M := ⟨_, rfl⟩; rw [hM] at CN hle h12; obtain ⟨N, hN⟩ : ∃ N : Int, ((m + 1 : Nat) : Int) = N := ⟨_, rfl⟩; rw [hN] at ST
  obtain ⟨b, o, c, rfl, hc1C, hc2C, hC⟩ := IsR.open16 h1 hl; have C := Lib.hid hC; clear hC
  have e1 : decide (1 ≤ N) = true := decide_eq_true (by omega); have e2 : decide (N ≤ ((M + 1 : Nat) : Int)) = true := decide_eq_true (by omega); have e3 : decide (N ≤ (M : Int) + 1) = true := decide_eq_true (by omega); have W1 : IntKind.i64.wrap ((M : Int) + 1) = ((M + 1 : Nat) : Int) := by rw [IntKind.wrap_i64]; omega
  have i0 : (0 : Int) ≤ (h : Int) := (by omega); have i1 : (h : Int) < 16 := (by omega)
  have H1m := Lib.hid h1m; have HNm := Lib.hid hN; clear h1 hl hv hm hc h1m h12 m12 hh0 hM hN hle hky hkey hh
  have hB0 := Below.refl w.heap.size w
  have hs0 := hB0.size
  go_enter Try.func7, Try.ntmps7
  go_wp2_with fail
  refine (AL _).mono ?_
  rintro e w1 ⟨rfl, hb⟩
  have hB1 : Below w.heap.size w w1 := below_thru hB0 hb
  have hs1 := hB1.size
  clear hB0 hs0
  clear hb
  go_wp2_with fail
  refine (CK _ _ (H1.out.below hB1)).mono ?_
  rintro e w2 ⟨rfl, hb⟩
  have hB2 : Below w.heap.size w w2 := below_thru hB1 hb
  have hs2 := hB2.size
  clear hB1 hs1
  clear hb
  go_wp2_with fail
  refine (FI _ _ (H1.out.below hB2)).mono ?_
  rintro e w3 ⟨rfl, hb⟩
  have hB3 : Below w.heap.size w w3 := below_thru hB2 hb
  have hs3 := hB3.size
  clear hB2 hs2
  clear hb
  go_wp2_with fail
  refine (ST _ _ (H1.out.below hB3)).mono ?_
  rintro e w4 ⟨rfl, hb⟩
  have hB4 : Below w.heap.size w w4 := below_thru hB3 hb
  have hs4 := hB4.size
  clear hB3 hs3
  clear hb
  go_wp2_with fail
  refine (CN _ _ (H1.out.below hB4)).mono ?_
  rintro e w5 ⟨rfl, hb⟩
  have hB5 : Below w.heap.size w w5 := below_thru hB4 hb
  have hs5 := hB5.size
  clear hB4 hs4
  clear hb
  go_wp2_with fail
  refine (RH _).mono ?_
  rintro e w6 ⟨rfl, hb⟩
  have hB6 : Below w.heap.size w w6 := below_thru hB5 hb
  have hs6 := hB6.size
  clear hB5 hs5
  clear hb
  have R := (C.out.below hB6) h h16; have r1 := R.1; have r3 := R.2.2; have zr := lt_of_cell r3; clear R
  rcases H1m.out with ⟨hm0, hu⟩ | ⟨hm0, hu, hk⟩ | ⟨hm0, hu, hk⟩
  ·
    skip
    have d1 : (N == 1) = true := by rw [beq_iff_eq]; have := HNm.out; omega
    rw [hu] at r3; clear hu hm0
    clear r1
    go_wp2_with fail
    go_returns
    exact ⟨rfl, hB6⟩
  ·
    skip
    have d1 : (N == 1) = true := by rw [beq_iff_eq]; have := HNm.out; omega
    rw [hu] at r3; clear hu hm0
    have hd : (key == key) = true := beq_self_eq_true key
    go_wp2_with fail
    refine (RH _).mono ?_
    rintro e w7 ⟨rfl, hb⟩
    clear r1 zr r3
    have hB7 : Below w.heap.size w w7 := below_thru hB6 hb
    have hs7 := hB7.size
    clear hB6 hs6
    clear hb
    have R := (C.out.below hB7) h h16; have r1 := R.1; have zr := lt_of_cell r1; clear R; rw [hk] at r1
    go_wp2_with fail
    go_returns
    exact ⟨rfl, hB7⟩
  ·
    skip
    have d1 : (N == 1) = false := by rw [beq_eq_false_iff_ne]; have := HNm.out; omega
    rw [hu] at r3; clear hu hm0
    obtain ⟨K, hK⟩ : ∃ K, (cel x h).k = K := ⟨_, rfl⟩; have hd : (K == key) = false := beq_false_of_ne (by rw [← hK]; exact hk); have HK := Lib.hid hK; clear hK hk
    go_wp2_with fail
    refine (RH _).mono ?_
    rintro e w7 ⟨rfl, hb⟩
    clear r1 zr r3
    have hB7 : Below w.heap.size w w7 := below_thru hB6 hb
    have hs7 := hB7.size
    clear hB6 hs6
    clear hb
    have R := (C.out.below hB7) h h16; have r1 := R.1; have zr := lt_of_cell r1; clear R; rw [HK.out] at r1
    go_wp2_with fail
    go_returns
    exact ⟨rfl, hB7⟩

set_option maxRecDepth 100000 in
set_option maxHeartbeats 6400000 in
theorem steps14_c {v : Value} {x : List Cel} {key : Int} (hky : Keys x) (hkey : 0 ≤ key ∧ key ≤ 4294967295) (hv : Valid x) (hh : ∃ i, Has x key i) (w : World) (h1 : IsR LCel w v x) : Calls Try.prog 7 #[v, .int .u32 key] w fun e w' => e = .returned (.bool true) ∧ Below w.heap.size w w' := by
  have H1 := Lib.hid h1; have hl := hv.len; have CK := fun (W : World) (u : Value) (h : IsR LCel W u x) => rchk_is (q := 0) hky W h (Or.inl ⟨rfl, hv⟩); have AL := fun W => alive14_is W; obtain ⟨m, hm, m12⟩ := Look.ex hv.len hv.few key; have hc := look_cnt hv hm; have h1m := look_one hm; have h12 := hv.few
  obtain ⟨i, hi⟩ := hh; have FI := fun (W : World) (u : Value) (h : IsR LCel W u x) => pfind_is (q := 0) (Or.inr (Or.inr ⟨hv, rfl, i, hi, rfl⟩)) W h; obtain ⟨p, hp⟩ : ∃ p, (cel x i).p = p := ⟨_, rfl⟩; rw [hp] at FI; have hle : m + 1 ≤ cnt x := hc.2 ⟨i, hi⟩; clear hp hi
  have ST := fun (W : World) (u : Value) (h : IsR LCel W u x) => pstep_is (Or.inr ⟨hv, rfl, m, hm, rfl⟩) W h; have CN := fun (W : World) (u : Value) (h : IsR LCel W u x) => rcnt_is hl W h; have RH := fun W => rhom_is hkey W
  obtain ⟨h, hh0⟩ : ∃ h, hom key = h := ⟨_, rfl⟩; have h16 := hom_lt key; rw [hh0] at RH h16 h1m; obtain ⟨M, hM⟩ : ∃ M, cnt x = M := ⟨_, rfl⟩; rw [hM] at CN hle h12; obtain ⟨N, hN⟩ : ∃ N : Int, ((m + 1 : Nat) : Int) = N := ⟨_, rfl⟩; rw [hN] at ST
  obtain ⟨b, o, c, rfl, hc1C, hc2C, hC⟩ := IsR.open16 h1 hl; have C := Lib.hid hC; clear hC
  have e1 : decide (1 ≤ N) = true := decide_eq_true (by omega); have e2 : decide (N ≤ ((M : Nat) : Int)) = true := decide_eq_true (by omega); have e3 : decide (N ≤ (M : Int) + 1) = true := decide_eq_true (by omega); have W1 : IntKind.i64.wrap ((M : Int) + 1) = ((M + 1 : Nat) : Int) := by rw [IntKind.wrap_i64]; omega
  have i0 : (0 : Int) ≤ (h : Int) := (by omega); have i1 : (h : Int) < 16 := (by omega)
  have H1m := Lib.hid h1m; have HNm := Lib.hid hN; clear h1 hl hv hm hc h1m h12 m12 hh0 hM hN hle hky hkey
  have hB0 := Below.refl w.heap.size w
  have hs0 := hB0.size
  go_enter Try.func7, Try.ntmps7
  go_wp2_with fail
  refine (AL _).mono ?_
  rintro e w1 ⟨rfl, hb⟩
  have hB1 : Below w.heap.size w w1 := below_thru hB0 hb
  have hs1 := hB1.size
  clear hB0 hs0
  clear hb
  go_wp2_with fail
  refine (CK _ _ (H1.out.below hB1)).mono ?_
  rintro e w2 ⟨rfl, hb⟩
  have hB2 : Below w.heap.size w w2 := below_thru hB1 hb
  have hs2 := hB2.size
  clear hB1 hs1
  clear hb
  go_wp2_with fail
  refine (FI _ _ (H1.out.below hB2)).mono ?_
  rintro e w3 ⟨rfl, hb⟩
  have hB3 : Below w.heap.size w w3 := below_thru hB2 hb
  have hs3 := hB3.size
  clear hB2 hs2
  clear hb
  go_wp2_with fail
  refine (ST _ _ (H1.out.below hB3)).mono ?_
  rintro e w4 ⟨rfl, hb⟩
  have hB4 : Below w.heap.size w w4 := below_thru hB3 hb
  have hs4 := hB4.size
  clear hB3 hs3
  clear hb
  go_wp2_with fail
  refine (CN _ _ (H1.out.below hB4)).mono ?_
  rintro e w5 ⟨rfl, hb⟩
  have hB5 : Below w.heap.size w w5 := below_thru hB4 hb
  have hs5 := hB5.size
  clear hB4 hs4
  clear hb
  go_wp2_with fail
  refine (RH _).mono ?_
  rintro e w6 ⟨rfl, hb⟩
  have hB6 : Below w.heap.size w w6 := below_thru hB5 hb
  have hs6 := hB6.size
  clear hB5 hs5
  clear hb
  have R := (C.out.below hB6) h h16; have r1 := R.1; have r3 := R.2.2; have zr := lt_of_cell r3; clear R
  rcases H1m.out with ⟨hm0, hu⟩ | ⟨hm0, hu, hk⟩ | ⟨hm0, hu, hk⟩
  ·
    skip
    have d1 : (N == 1) = true := by rw [beq_iff_eq]; have := HNm.out; omega
    rw [hu] at r3; clear hu hm0
    clear r1
    go_wp2_with fail
    go_returns
    exact ⟨rfl, hB6⟩
  ·
    skip
    have d1 : (N == 1) = true := by rw [beq_iff_eq]; have := HNm.out; omega
    rw [hu] at r3; clear hu hm0
    have hd : (key == key) = true := beq_self_eq_true key
    go_wp2_with fail
    refine (RH _).mono ?_
    rintro e w7 ⟨rfl, hb⟩
    clear r1 zr r3
    have hB7 : Below w.heap.size w w7 := below_thru hB6 hb
    have hs7 := hB7.size
    clear hB6 hs6
    clear hb
    have R := (C.out.below hB7) h h16; have r1 := R.1; have zr := lt_of_cell r1; clear R; rw [hk] at r1
    go_wp2_with fail
    go_returns
    exact ⟨rfl, hB7⟩
  ·
    skip
    have d1 : (N == 1) = false := by rw [beq_eq_false_iff_ne]; have := HNm.out; omega
    rw [hu] at r3; clear hu hm0
    obtain ⟨K, hK⟩ : ∃ K, (cel x h).k = K := ⟨_, rfl⟩; have hd : (K == key) = false := beq_false_of_ne (by rw [← hK]; exact hk); have HK := Lib.hid hK; clear hK hk
    go_wp2_with fail
    refine (RH _).mono ?_
    rintro e w7 ⟨rfl, hb⟩
    clear r1 zr r3
    have hB7 : Below w.heap.size w w7 := below_thru hB6 hb
    have hs7 := hB7.size
    clear hB6 hs6
    clear hb
    have R := (C.out.below hB7) h h16; have r1 := R.1; have zr := lt_of_cell r1; clear R; rw [HK.out] at r1
    go_wp2_with fail
    go_returns
    exact ⟨rfl, hB7⟩

theorem steps14_is {v : Value} {x : List Cel} {key : Int} (hky : Keys x) (hkey : 0 ≤ key ∧ key ≤ 4294967295) (w : World) (h1 : IsR LCel w v x) : Calls Try.prog 7 #[v, .int .u32 key] w fun e w' => e = .returned (.bool true) ∧ Below w.heap.size w w' := by
  by_cases hv : Valid x
  · by_cases hh : ∃ i, Has x key i
    · exact steps14_c hky hkey hv hh w h1
    · exact steps14_b hky hkey hv (fun i hi => hh ⟨i, hi⟩) w h1
  · exact steps14_a hky hv w h1


end Go.Proofs.Ytalfnmlbidohcaa
