/-
  The reference of layer 14, walked: Find, Steps, Put.
-/
import Derived.Test.YtalfnmlbidohcaaPbE
namespace Go.Proofs.Ytalfnmlbidohcaa
open Go.RowKit

theorem Keys.set {x : List Cel} (h : Keys x) (i : Nat) {c : Cel} (hc : 0 ≤ c.k ∧ c.k ≤ 4294967295) : Keys (x.set i c) := fun d hd => by
  rcases List.mem_or_eq_of_mem_set hd with q | q
  · exact h d q
  · rw [q]
    exact hc
theorem Keys.zero : 0 ≤ Cel.zero.k ∧ Cel.zero.k ≤ 4294967295 := ⟨by decide, by decide⟩
theorem Keys.put {x : List Cel} (h : Keys x) {key p : Int} (n : Nat) (hk : 0 ≤ key ∧ key ≤ 4294967295) : Keys (putL x key p n) := h.set _ hk
theorem Keys.gap : ∀ (f : Nat) {x : List Cel} {e i : Nat}, Keys x → Keys (gap f x e i)
  | 0, x, e, i, h => h
  | f + 1, x, e, i, h => by
    unfold Go.Proofs.Ytalfnmlbidohcaa.gap
    split
    · split
      · exact Keys.gap f ((h.set _ (h.cel i)).set _ Keys.zero)
      · exact Keys.gap f h
    · exact h
theorem Keys.drp {x : List Cel} (h : Keys x) (i : Nat) : Keys (drpL x i) := Keys.gap 16 (h.set _ Keys.zero)
theorem Keys.nil : Keys [] := fun c h => by cases h
theorem PutX.keys {x y : List Cel} {key p q : Int} (h : PutX x key p y q) (hx : Keys x) (hk : 0 ≤ key ∧ key ≤ 4294967295) : Keys y := by
  rcases h with ⟨_, rfl, _⟩ | ⟨_, _, rfl, _⟩ | ⟨_, _, _, rfl, _⟩ | ⟨_, _, _, _, rfl, _⟩ | ⟨_, _, _, _, _, n, _, _, rfl⟩
  · exact Keys.nil
  · exact Keys.nil
  · exact Keys.nil
  · exact Keys.nil
  · exact hx.put n hk
theorem DrpX.keys {x y : List Cel} {key q : Int} (h : DrpX x key y q) (hx : Keys x) : Keys y := by
  rcases h with ⟨_, rfl, _⟩ | ⟨_, _, rfl, _⟩ | ⟨_, _, i, _, rfl⟩
  · exact Keys.nil
  · exact Keys.nil
  · exact hx.drp i
theorem eqc_t (K Q : Int) (U : Bool) : ((K == K) && ((Q == Q) && ((U == U) && true))) = true := by simp
theorem eqc_f {K K' Q Q' : Int} {U U' : Bool} (h : (⟨K, Q, U⟩ : Cel) ≠ ⟨K', Q', U'⟩) : ((K == K') && ((Q == Q') && ((U == U') && true))) = false := by
  cases e : ((K == K') && ((Q == Q') && ((U == U') && true))) with
  | false => rfl
  | true =>
    simp only [Bool.and_eq_true, beq_iff_eq] at e
    obtain ⟨rfl, rfl, rfl, _⟩ := e
    exact absurd rfl h

set_option maxRecDepth 100000 in
set_option maxHeartbeats 6400000 in
theorem rfind_a {v : Value} {x : List Cel} {key : Int} (hky : Keys x) (hv : ¬ Valid x) (w : World) (h1 : IsR LCel w v x) : Calls Try.prog 10 #[v, .int .u32 key] w fun e w' => e = .returned (.tuple #[.int .i64 0, .int .i64 8]) ∧ Below w.heap.size w w' := by
  have H1 := Lib.hid h1; have CK := fun (W : World) (u : Value) (h : IsR LCel W u x) => rchk_is (q := 8) hky W h (Or.inr ⟨rfl, hv⟩)
  clear h1 hv hky
  have hB0 := Below.refl w.heap.size w
  have hs0 := hB0.size
  go_enter Try.func10, Try.ntmps10
  go_wp2_with fail
  refine (CK _ _ (H1.out.below hB0)).mono ?_
  rintro e w1 ⟨rfl, hb⟩
  have hB1 : Below w.heap.size w w1 := below_thru hB0 hb
  have hs1 := hB1.size
  clear hB0 hs0
  clear hb
  go_wp2_with fail
  refine (CK _ _ (H1.out.below hB1)).mono ?_
  rintro e w2 ⟨rfl, hb⟩
  have hB2 : Below w.heap.size w w2 := below_thru hB1 hb
  have hs2 := hB2.size
  clear hB1 hs1
  clear hb
  go_wp2_with fail
  go_returns
  exact ⟨rfl, hB2⟩

set_option maxRecDepth 100000 in
set_option maxHeartbeats 6400000 in
theorem rfind_b {v : Value} {x : List Cel} {key : Int} (hky : Keys x) (hv : Valid x) (hn : ∀ i, ¬ Has x key i) (w : World) (h1 : IsR LCel w v x) : Calls Try.prog 10 #[v, .int .u32 key] w fun e w' => e = .returned (.tuple #[.int .i64 0, .int .i64 6]) ∧ Below w.heap.size w w' := by
  have AT := fun (W : World) (u : Value) (h : IsR LCel W u x) => rat_is hv.len (Or.inl ⟨rfl, hn⟩) W h
  have H1 := Lib.hid h1; have CK := fun (W : World) (u : Value) (h : IsR LCel W u x) => rchk_is (q := 0) hky W h (Or.inl ⟨rfl, hv⟩)
  have hl := hv.len; have HY := Lib.hid hky
  obtain ⟨b, o, c, rfl, hc1C, hc2C, hC⟩ := IsR.open16 h1 hl; have C := Lib.hid hC; clear hC
  clear h1 hky
  clear hl hv hn HY C
  have hB0 := Below.refl w.heap.size w
  have hs0 := hB0.size
  go_enter Try.func10, Try.ntmps10
  go_wp2_with fail
  refine (CK _ _ (H1.out.below hB0)).mono ?_
  rintro e w1 ⟨rfl, hb⟩
  have hB1 : Below w.heap.size w w1 := below_thru hB0 hb
  have hs1 := hB1.size
  clear hB0 hs0
  clear hb
  go_wp2_with fail
  refine (AT _ _ (H1.out.below hB1)).mono ?_
  rintro e w2 ⟨rfl, hb⟩
  have hB2 : Below w.heap.size w w2 := below_thru hB1 hb
  have hs2 := hB2.size
  clear hB1 hs1
  clear hb
  go_wp2_with fail
  go_returns
  exact ⟨rfl, hB2⟩

set_option maxRecDepth 100000 in
set_option maxHeartbeats 6400000 in
theorem rfind_c {v : Value} {x : List Cel} {key : Int} (hky : Keys x) {i : Nat} (hv : Valid x) (hi : Has x key i) (w : World) (h1 : IsR LCel w v x) : Calls Try.prog 10 #[v, .int .u32 key] w fun e w' => e = .returned (.tuple #[.int .i64 (cel x i).p, .int .i64 0]) ∧ Below w.heap.size w w' := by
  have AT := fun (W : World) (u : Value) (h : IsR LCel W u x) => rat_is hv.len (hv.atR hi) W h
  have i16 := hi.1; have i0 : (0 : Int) ≤ (i : Int) := (by omega); have i1 : (i : Int) < 16 := (by omega); have d0 : decide ((i : Int) < 0) = false := decide_eq_false (by omega); obtain ⟨p, hp⟩ : ∃ p, (cel x i).p = p := ⟨_, rfl⟩; rw [hp]; have HP := Lib.hid hp; clear hp
  have H1 := Lib.hid h1; have CK := fun (W : World) (u : Value) (h : IsR LCel W u x) => rchk_is (q := 0) hky W h (Or.inl ⟨rfl, hv⟩)
  have hl := hv.len; have HY := Lib.hid hky
  obtain ⟨b, o, c, rfl, hc1C, hc2C, hC⟩ := IsR.open16 h1 hl; have C := Lib.hid hC; clear hC
  clear h1 hky
  clear hl hv hi HY
  have hB0 := Below.refl w.heap.size w
  have hs0 := hB0.size
  go_enter Try.func10, Try.ntmps10
  go_wp2_with fail
  refine (CK _ _ (H1.out.below hB0)).mono ?_
  rintro e w1 ⟨rfl, hb⟩
  have hB1 : Below w.heap.size w w1 := below_thru hB0 hb
  have hs1 := hB1.size
  clear hB0 hs0
  clear hb
  go_wp2_with fail
  refine (AT _ _ (H1.out.below hB1)).mono ?_
  rintro e w2 ⟨rfl, hb⟩
  have hB2 : Below w.heap.size w w2 := below_thru hB1 hb
  have hs2 := hB2.size
  clear hB1 hs1
  clear hb
  go_wp2_with fail
  refine (AT _ _ (H1.out.below hB2)).mono ?_
  rintro e w3 ⟨rfl, hb⟩
  have hB3 : Below w.heap.size w w3 := below_thru hB2 hb
  have hs3 := hB3.size
  clear hB2 hs2
  clear hb
  have R := (C.out.below hB3) i i16; have r2 := R.2.1; have zr := lt_of_cell r2; clear R; rw [HP.out] at r2
  go_wp2_with fail
  go_returns
  exact ⟨rfl, hB3⟩

theorem rfind_is {v : Value} {x : List Cel} {key p q : Int} (hky : Keys x) (hq : FndX x key p q) (w : World) (h1 : IsR LCel w v x) : Calls Try.prog 10 #[v, .int .u32 key] w fun e w' => e = .returned (.tuple #[.int .i64 p, .int .i64 q]) ∧ Below w.heap.size w w' := by
  rcases hq with ⟨rfl, rfl, hv⟩ | ⟨hv, rfl, rfl, hn⟩ | ⟨hv, rfl, i, hi, rfl⟩
  · exact rfind_a hky hv w h1
  · exact rfind_b hky hv hn w h1
  · exact rfind_c hky hv hi w h1

set_option maxRecDepth 100000 in
set_option maxHeartbeats 6400000 in
theorem rstep_a {v : Value} {x : List Cel} {key : Int} (hky : Keys x) (hv : ¬ Valid x) (w : World) (h1 : IsR LCel w v x) : Calls Try.prog 12 #[v, .int .u32 key] w fun e w' => e = .returned (.tuple #[.int .i64 0, .int .i64 8]) ∧ Below w.heap.size w w' := by
  have H1 := Lib.hid h1; have CK := fun (W : World) (u : Value) (h : IsR LCel W u x) => rchk_is (q := 8) hky W h (Or.inr ⟨rfl, hv⟩)
  clear h1 hv hky
  have hB0 := Below.refl w.heap.size w
  have hs0 := hB0.size
  go_enter Try.func12, Try.ntmps12
  go_wp2_with fail
  refine (CK _ _ (H1.out.below hB0)).mono ?_
  rintro e w1 ⟨rfl, hb⟩
  have hB1 : Below w.heap.size w w1 := below_thru hB0 hb
  have hs1 := hB1.size
  clear hB0 hs0
  clear hb
  go_wp2_with fail
  refine (CK _ _ (H1.out.below hB1)).mono ?_
  rintro e w2 ⟨rfl, hb⟩
  have hB2 : Below w.heap.size w w2 := below_thru hB1 hb
  have hs2 := hB2.size
  clear hB1 hs1
  clear hb
  go_wp2_with fail
  go_returns
  exact ⟨rfl, hB2⟩

set_option maxRecDepth 100000 in
set_option maxHeartbeats 6400000 in
theorem rstep_b {v : Value} {x : List Cel} {key : Int} (hky : Keys x) (hkey : 0 ≤ key ∧ key ≤ 4294967295) {n : Nat} (hv : Valid x) (hn : Look x key n) (w : World) (h1 : IsR LCel w v x) : Calls Try.prog 12 #[v, .int .u32 key] w fun e w' => e = .returned (.tuple #[.int .i64 ((n + 1 : Nat) : Int), .int .i64 0]) ∧ Below w.heap.size w w' := by
  have H1 := Lib.hid h1; have CK := fun (W : World) (u : Value) (h : IsR LCel W u x) => rchk_is (q := 0) hky W h (Or.inl ⟨rfl, hv⟩)
  have hl := hv.len; have HY := Lib.hid hky
  obtain ⟨b, o, c, rfl, hc1C, hc2C, hC⟩ := IsR.open16 h1 hl; have C := Lib.hid hC; clear hC
  clear h1 hky
  have HN := Lib.hid hn; have n16 := hn.1; have RH := fun W => rhom_is hkey W; obtain ⟨h, hh⟩ : ∃ h, hom key = h := ⟨_, rfl⟩; have h16 := hom_lt key; rw [hh] at RH h16; have HH := Lib.hid hh; clear hh hl hv hn hkey HY
  have hB0 := Below.refl w.heap.size w
  have hs0 := hB0.size
  go_enter Try.func12, Try.ntmps12
  go_wp2_with fail
  refine (CK _ _ (H1.out.below hB0)).mono ?_
  rintro e w1 ⟨rfl, hb⟩
  have hB1 : Below w.heap.size w w1 := below_thru hB0 hb
  have hs1 := hB1.size
  clear hB0 hs0
  clear hb
  go_wp2_with fail
  refine (RH _).mono ?_
  rintro e w2 ⟨rfl, hb⟩
  have hB2 : Below w.heap.size w w2 := below_thru hB1 hb
  have hs2 := hB2.size
  clear hB1 hs1
  clear hb
  go_wp2_with fail
  clear RH CK H1
  go_loopw [7, 6] (fun p7 p6 wr => ∃ k m : Nat, k ≤ n ∧ (h + k) % 16 = m ∧ p7 = .int .i64 m ∧ p6 = .int .i64 k ∧ Below w.heap.size w wr) (fun _ p6 _ => 16 - (intOf p6).toNat)
  case atStart => exact ⟨0, h, Nat.zero_le _, by omega, rfl, rfl, hB2⟩
  case round =>
    clear hB2 hs2
    obtain ⟨k, m, hk, hm, rfl, rfl, hB⟩ := hrel
    have m16 : m < 16 := (by omega)
    have R := (C.out.below hB) m m16; have r1 := R.1; have r3 := R.2.2; have zr := lt_of_cell r1; clear R
    have W1 : IntKind.i64.wrap ((k : Int) + 1) = ((k + 1 : Nat) : Int) := by rw [IntKind.wrap_i64]; omega
    have W2 : IntKind.i64.wrap ((m : Int) + 1) = ((m + 1 : Nat) : Int) := by rw [IntKind.wrap_i64]; omega
    have j0 : (0 : Int) ≤ (m : Int) := (by omega); have j1 : (m : Int) < 16 := (by omega); have i2 : (0 : Int) ≤ ((m + 1 : Nat) : Int) := (by omega); have HM := Lib.hid (show (hom key + k) % 16 = m by rw [HH.out]; exact hm)
    by_cases hkn : k = n
    case neg =>
      obtain ⟨e1, e2⟩ := stp_f (HN.out.2.2 k (by omega)); have hd := beq_false_of_ne e2; rw [HM.out] at e1 hd; rw [e1] at r3; clear e1 e2
      have HM2 := Lib.hid (show (h + (k + 1)) % 16 = (m + 1) % 16 by omega)
      obtain ⟨K, hK⟩ : ∃ K, (cel x m).k = K := ⟨_, rfl⟩; rw [hK] at r1 hd; clear hK hm
      go_wp2_with fail
      go_roundw
      case rel => exact ⟨k + 1, (m + 1) % 16, by omega, HM2.out, by go_num, by go_num, hB⟩
      case measure => simp [intOf]; omega
    case pos =>
      have HX := Lib.hid (show (Value.int .i64 ((k + 1 : Nat) : Int)) = .int .i64 ((n + 1 : Nat) : Int) by rw [hkn])
      have ht := stp_t HN.out.2.1; rw [show (hom key + n) % 16 = m by rw [← hkn]; exact HM.out] at ht; clear hkn hk hm
      obtain ⟨f, hf⟩ : ∃ f, cel x m = f := ⟨_, rfl⟩; rw [hf] at r1 r3 ht; clear hf; obtain ⟨K, Q, U⟩ := f; simp only at r1 r3 ht
      cases U with
      | false =>
        clear ht
        go_wp2_with fail
        go_returns
        exact ⟨ret_t2 HX.out rfl, hB⟩
      | true =>
        obtain rfl : K = key := ht.resolve_left (by simp); clear ht; have hd : (K == K) = true := beq_self_eq_true K
        go_wp2_with fail
        go_returns
        exact ⟨ret_t2 HX.out rfl, hB⟩

theorem rstep_is {v : Value} {x : List Cel} {key n q : Int} (hky : Keys x) (hkey : 0 ≤ key ∧ key ≤ 4294967295) (hq : StpX x key n q) (w : World) (h1 : IsR LCel w v x) : Calls Try.prog 12 #[v, .int .u32 key] w fun e w' => e = .returned (.tuple #[.int .i64 n, .int .i64 q]) ∧ Below w.heap.size w w' := by
  rcases hq with ⟨rfl, rfl, hv⟩ | ⟨hv, rfl, m, hm, rfl⟩
  · exact rstep_a hky hv w h1
  · exact rstep_b hky hkey hv hm w h1

set_option maxRecDepth 100000 in
set_option maxHeartbeats 6400000 in
theorem rput_a {v : Value} {x : List Cel} {key p : Int} (hky : Keys x) (hv : ¬ Valid x) (w : World) (h1 : IsR LCel w v x) : Calls Try.prog 18 #[v, .int .u32 key, .int .i64 p] w fun e w' => ∃ u, e = .returned (.tuple #[u, .int .i64 8]) ∧ RowX w' w.heap.size u [] ∧ Below w.heap.size w w' := by
  have H1 := Lib.hid h1; have CK := fun (W : World) (u : Value) (h : IsR LCel W u x) => rchk_is (q := 8) hky W h (Or.inr ⟨rfl, hv⟩)
  clear h1 hv hky
  have hB0 := Below.refl w.heap.size w
  have hs0 := hB0.size
  go_enter Try.func18, Try.ntmps18
  go_wp2_with fail
  refine (CK _ _ (H1.out.below hB0)).mono ?_
  rintro e w1 ⟨rfl, hb⟩
  have hB1 : Below w.heap.size w w1 := below_thru hB0 hb
  have hs1 := hB1.size
  clear hB0 hs0
  clear hb
  go_wp2_with fail
  refine (CK _ _ (H1.out.below hB1)).mono ?_
  rintro e w2 ⟨rfl, hb⟩
  have hB2 : Below w.heap.size w w2 := below_thru hB1 hb
  have hs2 := hB2.size
  clear hB1 hs1
  clear hb
  go_wp2_with fail
  go_returns
  exact ⟨_, rfl, Or.inl ⟨rfl, rfl⟩, hB2⟩

set_option maxRecDepth 100000 in
set_option maxHeartbeats 6400000 in
theorem rput_b1 {v : Value} {x : List Cel} {key p : Int} (hky : Keys x) (hv : Valid x) (hp : p < 0) (w : World) (h1 : IsR LCel w v x) : Calls Try.prog 18 #[v, .int .u32 key, .int .i64 p] w fun e w' => ∃ u, e = .returned (.tuple #[u, .int .i64 2]) ∧ RowX w' w.heap.size u [] ∧ Below w.heap.size w w' := by
  have H1 := Lib.hid h1; have CK := fun (W : World) (u : Value) (h : IsR LCel W u x) => rchk_is (q := 0) hky W h (Or.inl ⟨rfl, hv⟩)
  have hl := hv.len; have HY := Lib.hid hky
  obtain ⟨b, o, c, rfl, hc1C, hc2C, hC⟩ := IsR.open16 h1 hl; have C := Lib.hid hC; clear hC
  clear h1 hky
  have d0 : decide (p < 0) = true := decide_eq_true hp; clear hp
  clear hl hv HY C
  have hB0 := Below.refl w.heap.size w
  have hs0 := hB0.size
  go_enter Try.func18, Try.ntmps18
  go_wp2_with fail
  refine (CK _ _ (H1.out.below hB0)).mono ?_
  rintro e w1 ⟨rfl, hb⟩
  have hB1 : Below w.heap.size w w1 := below_thru hB0 hb
  have hs1 := hB1.size
  clear hB0 hs0
  clear hb
  go_wp2_with fail
  go_returns
  exact ⟨_, rfl, Or.inl ⟨rfl, rfl⟩, hB1⟩

set_option maxRecDepth 100000 in
set_option maxHeartbeats 6400000 in
theorem rput_b2 {v : Value} {x : List Cel} {key p : Int} (hky : Keys x) (hv : Valid x) (hp0 : 0 ≤ p) (hp : 16 ≤ p) (w : World) (h1 : IsR LCel w v x) : Calls Try.prog 18 #[v, .int .u32 key, .int .i64 p] w fun e w' => ∃ u, e = .returned (.tuple #[u, .int .i64 2]) ∧ RowX w' w.heap.size u [] ∧ Below w.heap.size w w' := by
  have _ := hp0
  have H1 := Lib.hid h1; have CK := fun (W : World) (u : Value) (h : IsR LCel W u x) => rchk_is (q := 0) hky W h (Or.inl ⟨rfl, hv⟩)
  have hl := hv.len; have HY := Lib.hid hky
  obtain ⟨b, o, c, rfl, hc1C, hc2C, hC⟩ := IsR.open16 h1 hl; have C := Lib.hid hC; clear hC
  clear h1 hky
  have d0 : decide (p < 0) = false := decide_eq_false (by omega); have d1 : decide (16 ≤ p) = true := decide_eq_true hp; clear hp hp0
  clear hl hv HY C
  have hB0 := Below.refl w.heap.size w
  have hs0 := hB0.size
  go_enter Try.func18, Try.ntmps18
  go_wp2_with fail
  refine (CK _ _ (H1.out.below hB0)).mono ?_
  rintro e w1 ⟨rfl, hb⟩
  have hB1 : Below w.heap.size w w1 := below_thru hB0 hb
  have hs1 := hB1.size
  clear hB0 hs0
  clear hb
  go_wp2_with fail
  go_returns
  exact ⟨_, rfl, Or.inl ⟨rfl, rfl⟩, hB1⟩

set_option maxRecDepth 100000 in
set_option maxHeartbeats 6400000 in
theorem rput_c {v : Value} {x : List Cel} {key p : Int} (hky : Keys x) {i : Nat} (hv : Valid x) (hp : 0 ≤ p ∧ p < 16) (hi : Has x key i) (w : World) (h1 : IsR LCel w v x) : Calls Try.prog 18 #[v, .int .u32 key, .int .i64 p] w fun e w' => ∃ u, e = .returned (.tuple #[u, .int .i64 14]) ∧ RowX w' w.heap.size u [] ∧ Below w.heap.size w w' := by
  have AT := fun (W : World) (u : Value) (h : IsR LCel W u x) => rat_is hv.len (hv.atR hi) W h
  have H1 := Lib.hid h1; have CK := fun (W : World) (u : Value) (h : IsR LCel W u x) => rchk_is (q := 0) hky W h (Or.inl ⟨rfl, hv⟩)
  have hl := hv.len; have HY := Lib.hid hky
  obtain ⟨b, o, c, rfl, hc1C, hc2C, hC⟩ := IsR.open16 h1 hl; have C := Lib.hid hC; clear hC
  clear h1 hky
  have d0 : decide (p < 0) = false := decide_eq_false (by omega); have d1 : decide (16 ≤ p) = false := decide_eq_false (by omega); clear hp
  have d2 : decide (0 ≤ (i : Int)) = true := decide_eq_true (by omega); clear hl hv hi HY C
  have hB0 := Below.refl w.heap.size w
  have hs0 := hB0.size
  go_enter Try.func18, Try.ntmps18
  go_wp2_with fail
  refine (CK _ _ (H1.out.below hB0)).mono ?_
  rintro e w1 ⟨rfl, hb⟩
  have hB1 : Below w.heap.size w w1 := below_thru hB0 hb
  have hs1 := hB1.size
  clear hB0 hs0
  clear hb
  go_wp2_with fail
  refine (AT _ _ (H1.out.below hB1)).mono ?_
  rintro e w2 ⟨rfl, hb⟩
  have hB2 : Below w.heap.size w w2 := below_thru hB1 hb
  have hs2 := hB2.size
  clear hB1 hs1
  clear hb
  go_wp2_with fail
  go_returns
  exact ⟨_, rfl, Or.inl ⟨rfl, rfl⟩, hB2⟩

set_option maxRecDepth 100000 in
set_option maxHeartbeats 6400000 in
theorem rput_d {v : Value} {x : List Cel} {key p : Int} (hky : Keys x) (hv : Valid x) (hp : 0 ≤ p ∧ p < 16) (hn : ∀ i, ¬ Has x key i) (hc : cnt x = 12) (w : World) (h1 : IsR LCel w v x) : Calls Try.prog 18 #[v, .int .u32 key, .int .i64 p] w fun e w' => ∃ u, e = .returned (.tuple #[u, .int .i64 18]) ∧ RowX w' w.heap.size u [] ∧ Below w.heap.size w w' := by
  have AT := fun (W : World) (u : Value) (h : IsR LCel W u x) => rat_is hv.len (Or.inl ⟨rfl, hn⟩) W h
  have PC := fun (W : World) (u : Value) (h : IsR LCel W u x) => rcnt_is hv.len W h; obtain ⟨m, hm⟩ : ∃ m, cnt x = m := ⟨_, rfl⟩; rw [hm] at PC hc; have d0 : ((m : Int) == 12) = true := (by rw [beq_iff_eq]; omega); clear hm hc
  have H1 := Lib.hid h1; have CK := fun (W : World) (u : Value) (h : IsR LCel W u x) => rchk_is (q := 0) hky W h (Or.inl ⟨rfl, hv⟩)
  have hl := hv.len; have HY := Lib.hid hky
  obtain ⟨b, o, c, rfl, hc1C, hc2C, hC⟩ := IsR.open16 h1 hl; have C := Lib.hid hC; clear hC
  clear h1 hky
  have d0 : decide (p < 0) = false := decide_eq_false (by omega); have d1 : decide (16 ≤ p) = false := decide_eq_false (by omega); clear hp
  clear hl hv hn HY C
  have hB0 := Below.refl w.heap.size w
  have hs0 := hB0.size
  go_enter Try.func18, Try.ntmps18
  go_wp2_with fail
  refine (CK _ _ (H1.out.below hB0)).mono ?_
  rintro e w1 ⟨rfl, hb⟩
  have hB1 : Below w.heap.size w w1 := below_thru hB0 hb
  have hs1 := hB1.size
  clear hB0 hs0
  clear hb
  go_wp2_with fail
  refine (AT _ _ (H1.out.below hB1)).mono ?_
  rintro e w2 ⟨rfl, hb⟩
  have hB2 : Below w.heap.size w w2 := below_thru hB1 hb
  have hs2 := hB2.size
  clear hB1 hs1
  clear hb
  go_wp2_with fail
  refine (PC _ _ (H1.out.below hB2)).mono ?_
  rintro e w3 ⟨rfl, hb⟩
  have hB3 : Below w.heap.size w w3 := below_thru hB2 hb
  have hs3 := hB3.size
  clear hB2 hs2
  clear hb
  go_wp2_with fail
  go_returns
  exact ⟨_, rfl, Or.inl ⟨rfl, rfl⟩, hB3⟩

set_option maxRecDepth 100000 in
set_option maxHeartbeats 6400000 in
theorem rput_e {v : Value} {x : List Cel} {key p : Int} (hky : Keys x) (hkey : 0 ≤ key ∧ key ≤ 4294967295) {n : Nat} (hv : Valid x) (hp : 0 ≤ p ∧ p < 16) (hno : ∀ i, ¬ Has x key i) (hn : Look x key n) (hu : (cel x (lst key n)).u = false) (hc : cnt x < 12) (w : World) (h1 : IsR LCel w v x) : Calls Try.prog 18 #[v, .int .u32 key, .int .i64 p] w fun e w' => ∃ u, e = .returned (.tuple #[u, .int .i64 0]) ∧ RowX w' w.heap.size u (putL x key p n) ∧ Below w.heap.size w w' := by
  have AT := fun (W : World) (u : Value) (h : IsR LCel W u x) => rat_is hv.len (Or.inl ⟨rfl, hno⟩) W h
  have HL := Lib.hid hv.len; have UP := Lib.hid (upd16 hv.len (lst_lt key n) key p true); have PN := Lib.hid ((put_len x key p n).trans hv.len)
  have F48 := Lib.hid (flat16 hv.len); have HJ := Lib.hid (show putL x key p n = x.set (lst key n) ⟨key, p, true⟩ from rfl)
  have HN := Lib.hid hn; have n16 := hn.1; have RH := fun W => rhom_is hkey W; obtain ⟨h, hh⟩ : ∃ h, hom key = h := ⟨_, rfl⟩; have h16 := hom_lt key; rw [hh] at RH h16; have HH := Lib.hid hh; obtain ⟨j, hj⟩ : ∃ j, lst key n = j := ⟨_, rfl⟩; have j16 := lst_lt key n; rw [hj] at UP HJ hu j16; have HU := Lib.hid hu; have HJn := Lib.hid (show (h + n) % 16 = j by rw [← hh]; exact hj); have j0 : (0 : Int) ≤ (j : Int) := (by omega); have j1 : (j : Int) < 16 := (by omega)
  have PC := fun (W : World) (u : Value) (h : IsR LCel W u x) => rcnt_is hv.len W h; obtain ⟨m, hm⟩ : ∃ m, cnt x = m := ⟨_, rfl⟩; rw [hm] at PC hc; have d0 : ((m : Int) == 12) = false := (by rw [beq_eq_false_iff_ne]; omega); clear hm hc
  have H1 := Lib.hid h1; have CK := fun (W : World) (u : Value) (h : IsR LCel W u x) => rchk_is (q := 0) hky W h (Or.inl ⟨rfl, hv⟩)
  have hl := hv.len; have HY := Lib.hid hky
  obtain ⟨b, o, c, rfl, hc1C, hc2C, hC⟩ := IsR.open16 h1 hl; have C := Lib.hid hC; clear hC
  clear h1 hky
  have d0 : decide (p < 0) = false := decide_eq_false (by omega); have d1 : decide (16 ≤ p) = false := decide_eq_false (by omega); clear hp
  obtain ⟨ti, hin, hz0, hz1, hz2⟩ := info_parts info_cel; clear hl hv hn hno hj hu hh hkey HY C
  obtain ⟨Y, hY⟩ : ∃ Y, x.set j ⟨key, p, true⟩ = Y := ⟨_, rfl⟩; rw [hY] at UP HJ; rw [HJ.out] at PN ⊢; clear hY HJ; obtain ⟨F, hF⟩ : ∃ F, flatR LCel x = F := ⟨_, rfl⟩; rw [hF] at UP F48; have HF := Lib.hid hF; clear hF
  have hB0 := Below.refl w.heap.size w
  have hs0 := hB0.size
  go_enter Try.func18, Try.ntmps18
  go_wp2_with fail
  refine (CK _ _ (H1.out.below hB0)).mono ?_
  rintro e w1 ⟨rfl, hb⟩
  have hB1 : Below w.heap.size w w1 := below_thru hB0 hb
  have hs1 := hB1.size
  clear hB0 hs0
  clear hb
  go_wp2_with fail
  refine (AT _ _ (H1.out.below hB1)).mono ?_
  rintro e w2 ⟨rfl, hb⟩
  have hB2 : Below w.heap.size w w2 := below_thru hB1 hb
  have hs2 := hB2.size
  clear hB1 hs1
  clear hb
  go_wp2_with fail
  refine (PC _ _ (H1.out.below hB2)).mono ?_
  rintro e w3 ⟨rfl, hb⟩
  have hB3 : Below w.heap.size w w3 := below_thru hB2 hb
  have hs3 := hB3.size
  clear hB2 hs2
  clear hb
  have LE : (w3.alloc (.cells #[] 42)).ownsRow w3.heap.size 42 3 (.slice (some ⟨w3.heap.size, 0, none⟩) 0 0) 0 [] := ownR_built (L := LCel) (c := #[]) (n := 0) (m := 0) [] rfl rfl rfl rfl rfl (by decide)
  have XS : IsR LCel (w3.alloc (.cells #[] 42)) (.slice (some ⟨b, o, none⟩) 16 c) x := (H1.out.below hB3).alloc _
  go_wp2_with (at_builtin; refine wpList_append_rows rfl LCel _ _ 22 rfl w3.heap.size 42 ti (.agg celz.toArray) 3 24 rfl Try.underlying22 hin hz0 hz1 hz2 rfl _ 0 _ rfl LE _ x rfl XS (by have := HL.out; unfold maxLen; omega) (by have := HL.out; omega) (by simp) ?_; intro v9 w9 own9 gr9; have hN : Below w3.heap.size w3 w9 := ((Below.refl _ _).alloc (Nat.le_refl _) _).grown gr9 (by simp) (ownR_block LE); have hB9 := below_thru hB3 hN; rw [Nat.zero_add, List.nil_append, HL.out] at own9; obtain ⟨h16_, g, d, rfl, hg, hd1, hd2, hx, hT⟩ := RowC.own own9 HL.out; have hg2 : w.heap.size ≤ g := Nat.le_trans hs3 hg; rw [HF.out] at hx; have hlt := hx.lt; clear h16_ LE XS own9 gr9 hN hg hB3 hs3)
  refine (RH _).mono ?_
  rintro e w10 ⟨rfl, hb⟩
  clear hlt; have hB10 := below_thru hB9 hb; have hx10 := hx.below hb; have hT10 := hT.below hb; clear hB9 hx hT hb
  go_wp2_with fail
  clear RH CK PC AT hin hz0 hz1 hz2
  go_loopw [9] (fun p9 wr => ∃ k m : Nat, k ≤ n ∧ (h + k) % 16 = m ∧ p9 = .int .i64 m ∧ Box wr g F ∧ Ty wr g 42 ∧ Below w.heap.size w wr) (fun p9 _ => awy (intOf p9).toNat j)
  case atStart => exact ⟨0, h, Nat.zero_le _, by omega, rfl, hx10, hT10, hB10⟩
  case round =>
    clear hx10 hT10 hB10
    obtain ⟨k, m, hk, hm, rfl, hx, hT, hB⟩ := hrel
    have m16 : m < 16 := (by omega)
    have hx2 := hx; rw [← HF.out] at hx2; have R := hx2.cells HL.out m m16; have r3 := R.2.2; have zr := hx.lt; clear R hx2; simp only [Nat.zero_add] at r3
    have W2 : IntKind.i64.wrap ((m : Int) + 1) = ((m + 1 : Nat) : Int) := by rw [IntKind.wrap_i64]; omega
    have k0 : (0 : Int) ≤ (m : Int) := (by omega); have k1 : (m : Int) < 16 := (by omega); have i2 : (0 : Int) ≤ ((m + 1 : Nat) : Int) := (by omega); have HM := Lib.hid (show (hom key + k) % 16 = m by rw [HH.out]; exact hm)
    by_cases hkn : k = n
    case neg =>
      obtain ⟨e1, _⟩ := stp_f (HN.out.2.2 k (by omega)); rw [HM.out] at e1; rw [e1] at r3; clear e1
      have HM2 := Lib.hid (show (h + (k + 1)) % 16 = (m + 1) % 16 by omega); have HMe := Lib.hid (show awy ((m + 1) % 16) j < awy m j by have := HJn.out; unfold awy; omega); clear hm
      go_wp2_with fail
      go_roundw
      case rel => exact ⟨k + 1, (m + 1) % 16, by omega, HM2.out, by go_num, hx, hT, hB⟩
      case measure => exact ms14 HMe.out
    case pos =>
      obtain rfl : m = j := by have := HJn.out; rw [← hm, hkn]; exact this
      rw [HU.out] at r3; clear hkn hk hm
      go_wp2_with (first | (refine wpList_build9 rfl 42 _ rfl (us := #[(0, .int .u32 key), (1, .int .i64 p), (2, .bool true)]) (by rfl) (build_cel key p true _) ?_) | (refine wpList_store_partT (k := m * 3) (cs := [.int .u32 key, .int .i64 p, .bool true]) (ws := flatR LCel Y) rfl _ _ _ rfl hx (by first | rfl | simp) rfl (size_cel _ _ _) (by rw [F48.out]; simp; omega) UP.out (one_cel _ _ _) ?_; intro W3 hW3 tW3))
      go_returns
      exact ⟨_, rfl, Or.inr ⟨PN.out, g, d, rfl, hg2, hd1, hd2, hW3.box, tW3 _ hT⟩, hW3.below _ _ hg2 hB⟩

theorem rput_is {v : Value} {x y : List Cel} {key p q : Int} (hky : Keys x) (hkey : 0 ≤ key ∧ key ≤ 4294967295) (hq : PutX x key p y q) (w : World) (h1 : IsR LCel w v x) : Calls Try.prog 18 #[v, .int .u32 key, .int .i64 p] w fun e w' => ∃ u, e = .returned (.tuple #[u, .int .i64 q]) ∧ RowX w' w.heap.size u y ∧ Below w.heap.size w w' := by
  rcases hq with ⟨rfl, rfl, hv⟩ | ⟨hv, rfl, rfl, hp⟩ | ⟨hv, hp, rfl, rfl, i, hi⟩ | ⟨hv, hp, hn, rfl, rfl, hc⟩ | ⟨hv, hp, hn, rfl, hc, n, h2, h3, rfl⟩
  · exact rput_a hky hv w h1
  · by_cases h0 : p < 0
    · exact rput_b1 hky hv h0 w h1
    · exact rput_b2 hky hv (by omega) (by omega) w h1
  · exact rput_c hky hv hp hi w h1
  · exact rput_d hky hv hp hn hc w h1
  · exact rput_e hky hkey hv hp hn h2 h3 hc w h1


end Go.Proofs.Ytalfnmlbidohcaa
