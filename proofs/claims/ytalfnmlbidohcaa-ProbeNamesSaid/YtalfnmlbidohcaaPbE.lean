/-
  The reference of layer 14, walked: Home, Count, At, Check.
-/
import Derived.Test.YtalfnmlbidohcaaPbD
namespace Go.Proofs.Ytalfnmlbidohcaa
open Go.RowKit

/-- The first cell that has a key. -/
def AtR (x : List Cel) (key r : Int) : Prop := (r = -1 ∧ ∀ i, ¬ Has x key i) ∨ (∃ i : Nat, r = (i : Int) ∧ Has x key i ∧ ∀ m, m < i → ¬ Has x key m)
theorem AtR.uniq {x : List Cel} {key r s : Int} (h1 : AtR x key r) (h2 : AtR x key s) : r = s := by
  rcases h1 with ⟨rfl, n⟩ | ⟨i, rfl, hi, ni⟩
  · rcases h2 with ⟨rfl, _⟩ | ⟨j, _, hj, _⟩
    · rfl
    · exact absurd hj (n j)
  · rcases h2 with ⟨_, n⟩ | ⟨j, rfl, hj, nj⟩
    · exact absurd hi (n i)
    · rcases Nat.lt_trichotomy i j with q | q | q
      · exact absurd hi (nj i q)
      · rw [q]
      · exact absurd hj (ni j q)
theorem AtR.ex (x : List Cel) (key : Int) : ∃ r, AtR x key r := by
  by_cases h : ∃ i, Has x key i
  · obtain ⟨i, hi⟩ := h
    have dec : ∀ j, (decide (j < 16) && ((cel x j).u && ((cel x j).k == key))) = true ↔ Has x key j := fun j => by
      unfold Has
      simp
    obtain ⟨m, _, h1, h2⟩ := least (p := fun j => decide (j < 16) && ((cel x j).u && ((cel x j).k == key))) i ((dec i).2 hi)
    refine ⟨_, Or.inr ⟨m, rfl, (dec m).1 h1, fun j hj hh => ?_⟩⟩
    have := h2 j hj
    rw [(dec j).2 hh] at this
    cases this
  · exact ⟨_, Or.inl ⟨rfl, fun i hi => h ⟨i, hi⟩⟩⟩
theorem Valid.atR {x : List Cel} (hv : Valid x) {key : Int} {i : Nat} (hi : Has x key i) : AtR x key (i : Int) :=
  Or.inr ⟨i, rfl, hi, fun m hm hh => by have := hv.has_uniq hi hh; omega⟩
/-- What the reference's Check has seen of a cell. -/
def OkR (x : List Cel) (i : Nat) : Prop := ((cel x i).u = false ∧ cel x i = Cel.zero) ∨ ((cel x i).u = true ∧ (0 ≤ (cel x i).p ∧ (cel x i).p < 16) ∧ (∀ m, m < i → ¬ Has x (cel x i).k m) ∧ ∀ n, n < awy (hom (cel x i).k) i → (cel x ((hom (cel x i).k + n) % 16)).u = true)
theorem Valid.okR {x : List Cel} (hv : Valid x) {i : Nat} (hi : i < 16) : OkR x i := by
  cases e : (cel x i).u with
  | false => exact Or.inl ⟨e, hv.zer i hi e⟩
  | true => exact Or.inr ⟨e, hv.plc i hi e, fun m hm hh => by have := hv.has_uniq hh ⟨hi, e, rfl⟩; omega, hv.way i hi e⟩
theorem okR_next {x : List Cel} {k : Nat} (h : ∀ i, i < k → OkR x i) (hk : OkR x k) : ∀ i, i < k + 1 → OkR x i := fun i hi => by
  rcases Nat.lt_or_ge i k with q | q
  · exact h i q
  · obtain rfl : i = k := by omega
    exact hk
theorem valid_okR {x : List Cel} (hl : x.length = 16) (hc : cnt x ≤ 12) (h : ∀ i, i < 16 → OkR x i) : Valid x where
  len := hl
  few := hc
  zer i hi hu := by
    rcases h i hi with ⟨_, e⟩ | ⟨e, _⟩
    · exact e
    · rw [hu] at e
      cases e
  plc i hi hu := by
    rcases h i hi with ⟨e, _⟩ | ⟨_, e, _⟩
    · rw [hu] at e
      cases e
    · exact e
  one i j hi hj hu hv e := by
    rcases h i hi with ⟨q, _⟩ | ⟨_, _, fi, _⟩
    · rw [hu] at q
      cases q
    · rcases h j hj with ⟨q, _⟩ | ⟨_, _, fj, _⟩
      · rw [hv] at q
        cases q
      · rcases Nat.lt_trichotomy i j with q | q | q
        · exact absurd ⟨hi, hu, e⟩ (fj i q)
        · exact q
        · exact absurd ⟨hj, hv, e.symm⟩ (fi j q)
  way i hi hu := by
    rcases h i hi with ⟨q, _⟩ | ⟨_, _, _, w⟩
    · rw [hu] at q
      cases q
    · exact w

set_option maxRecDepth 100000 in
set_option maxHeartbeats 6400000 in
theorem rhom_is {k : Int} (hk : 0 ≤ k ∧ k ≤ 4294967295) (w : World) : Calls Try.prog 14 #[.int .u32 k] w fun e w' => e = .returned (.int .i64 (hom k : Nat)) ∧ Below w.heap.size w w' := by
  have hB0 := Below.refl w.heap.size w; have HK := Lib.hid hk; clear hk
  go_enter Try.func14, Try.ntmps14
  go_wp2_with fail
  go_returns
  refine ⟨ret_i12 ?_, hB0⟩
  have hk := HK.out
  have a1 : IntKind.u64.wrap k = k := by rw [IntKind.wrap_u64]; omega
  have a2 : IntKind.u64.wrap (k * 2654435769) = k * 2654435769 := by rw [IntKind.wrap_u64]; omega
  have a3 : (k * 2654435769).tmod 4294967296 = k * 2654435769 % 4294967296 := Int.tmod_eq_emod_of_nonneg (by omega)
  have a4 : 0 ≤ k * 2654435769 % 4294967296 := Int.emod_nonneg _ (by decide)
  have a5 : (k * 2654435769 % 4294967296).tdiv 268435456 = k * 2654435769 % 4294967296 / 268435456 := Int.tdiv_eq_ediv_of_nonneg a4
  have a6 := hom_lt k
  rw [a1, a2, a3, a5, hom_eq, IntKind.wrap_u64]
  unfold wrap64
  omega

set_option maxRecDepth 100000 in
set_option maxHeartbeats 6400000 in
theorem rcnt_is {v : Value} {x : List Cel} (hl : x.length = 16) (w : World) (h1 : IsR LCel w v x) : Calls Try.prog 24 #[v] w fun e w' => e = .returned (.int .i64 (cnt x : Nat)) ∧ Below w.heap.size w w' := by
  obtain ⟨b, o, c, rfl, hc1C, hc2C, hC⟩ := IsR.open16 h1 hl; have C := Lib.hid hC; clear hC
  have HL := Lib.hid hl; clear h1 hl
  have hB0 := Below.refl w.heap.size w
  have hs0 := hB0.size
  go_enter Try.func24, Try.ntmps24
  go_wp2_with fail
  go_loopw [4, 3] (fun p4 p3 wr => ∃ k n : Nat, k ≤ 16 ∧ p4 = .int .i64 k ∧ p3 = .int .i64 n ∧ Hid (n = cnt (x.take k)) ∧ Below w.heap.size w wr) (fun p4 _ _ => 16 - (intOf p4).toNat)
  case atStart => exact ⟨0, 0, by decide, rfl, rfl, Lib.hid rfl, hB0⟩
  case round =>
    clear hB0 hs0
    obtain ⟨k, n, hk, rfl, rfl, HN, hB⟩ := hrel
    by_cases hlt : k < 16
    case neg =>
      have HX := Lib.hid (show ((n : Nat) : Int) = ((cnt x : Nat) : Int) by have := HN.out; rw [show k = 16 by omega, cnt_all HL.out] at this; omega); have hd : decide ((k : Int) < 16) = false := decide_eq_false (by omega); clear HN hlt
      go_wp2_with fail
      go_returns
      exact ⟨ret_i12 HX.out, hB⟩
    case pos =>
      have R := (C.out.below hB) k hlt; have r3 := R.2.2; have zr := lt_of_cell r3; clear R; have HS := Lib.hid (cnt_succ (x := x) (k := k) (by rw [HL.out]; exact hlt)); have HM := Lib.hid (show n ≤ 16 by have := HN.out; have h2 := cnt_len (x.take k); rw [List.length_take, HL.out] at h2; omega)
      have i0 : (0 : Int) ≤ (k : Int) := (by omega); have i1 : (k : Int) < 16 := (by omega); have W1 : IntKind.i64.wrap ((k : Int) + 1) = ((k + 1 : Nat) : Int) := by rw [IntKind.wrap_i64]; omega
      have W2 : IntKind.i64.wrap ((n : Int) + 1) = ((n + 1 : Nat) : Int) := by rw [IntKind.wrap_i64]; have := HM.out; omega
      obtain ⟨U, hU⟩ : ∃ U, (cel x k).u = U := ⟨_, rfl⟩; rw [hU] at r3 HS; clear hU; cases U with
      | true =>
        have HN2 := Lib.hid (show n + 1 = cnt (x.take (k + 1)) by rw [HS.out, HN.out]; rfl)
        go_wp2_with fail
        go_roundw
        case rel => exact ⟨k + 1, n + 1, by omega, by go_num, by go_num, HN2, hB⟩
        case measure => simp [intOf]; omega
      | false =>
        have HN2 := Lib.hid (show n = cnt (x.take (k + 1)) by rw [HS.out, HN.out]; rfl)
        go_wp2_with fail
        go_roundw
        case rel => exact ⟨k + 1, n, by omega, by go_num, by go_num, HN2, hB⟩
        case measure => simp [intOf]; omega

set_option maxRecDepth 100000 in
set_option maxHeartbeats 6400000 in
theorem rat_is {v : Value} {x : List Cel} {key r : Int} (hl : x.length = 16) (hr : AtR x key r) (w : World) (h1 : IsR LCel w v x) : Calls Try.prog 26 #[v, .int .u32 key] w fun e w' => e = .returned (.int .i64 r) ∧ Below w.heap.size w w' := by
  obtain ⟨b, o, c, rfl, hc1C, hc2C, hC⟩ := IsR.open16 h1 hl; have C := Lib.hid hC; clear hC
  have HR := Lib.hid hr; clear h1 hl hr
  have hB0 := Below.refl w.heap.size w
  have hs0 := hB0.size
  go_enter Try.func26, Try.ntmps26
  go_wp2_with fail
  go_loopw [5] (fun p5 wr => ∃ k : Nat, k ≤ 16 ∧ p5 = .int .i64 k ∧ Hid (∀ m, m < k → ¬ Has x key m) ∧ Below w.heap.size w wr) (fun p5 _ => 16 - (intOf p5).toNat)
  case atStart => exact ⟨0, by decide, rfl, Lib.hid (fun m hm => absurd hm (Nat.not_lt_zero m)), hB0⟩
  case round =>
    clear hB0 hs0
    obtain ⟨k, hk, rfl, HN, hB⟩ := hrel
    by_cases hlt : k < 16
    case neg =>
      have HX := Lib.hid (show (-1 : Int) = r from AtR.uniq (Or.inl ⟨rfl, fun i hi => HN.out i (by have := hi.1; omega) hi⟩) HR.out); have hd : decide ((k : Int) < 16) = false := decide_eq_false (by omega); clear HN HR hlt
      go_wp2_with fail
      go_returns
      exact ⟨ret_i12 HX.out, hB⟩
    case pos =>
      have R := (C.out.below hB) k hlt; have r1 := R.1; have r3 := R.2.2; have zr := lt_of_cell r3; clear R
      have i0 : (0 : Int) ≤ (k : Int) := (by omega); have i1 : (k : Int) < 16 := (by omega); have W1 : IntKind.i64.wrap ((k : Int) + 1) = ((k + 1 : Nat) : Int) := by rw [IntKind.wrap_i64]; omega
      have HH := Lib.hid (show Has x key k ↔ (cel x k).u = true ∧ (cel x k).k = key from ⟨fun h => h.2, fun h => ⟨hlt, h⟩⟩)
      obtain ⟨U, hU⟩ : ∃ U, (cel x k).u = U := ⟨_, rfl⟩; obtain ⟨K, hK⟩ : ∃ K, (cel x k).k = K := ⟨_, rfl⟩; rw [hU] at r3 HH; rw [hK] at r1 HH; clear hU hK; cases U with
      | false =>
        have HN2 := Lib.hid (show ∀ m, m < k + 1 → ¬ Has x key m from fun m hm hh => by
          rcases Nat.lt_or_ge m k with q | q
          · exact HN.out m q hh
          · obtain rfl : m = k := by omega
            have := HH.out.1 hh
            exact Bool.false_ne_true this.1); clear HN HH HR
        go_wp2_with fail
        go_roundw
        case rel => exact ⟨k + 1, by omega, by go_num, HN2, hB⟩
        case measure => simp [intOf]; omega
      | true =>
        by_cases hkk : K = key
        case neg =>
          have hd := beq_false_of_ne hkk
          have HN2 := Lib.hid (show ∀ m, m < k + 1 → ¬ Has x key m from fun m hm hh => by
            rcases Nat.lt_or_ge m k with q | q
            · exact HN.out m q hh
            · obtain rfl : m = k := by omega
              have := HH.out.1 hh
              exact hkk this.2); clear HN HH HR
          go_wp2_with fail
          go_roundw
          case rel => exact ⟨k + 1, by omega, by go_num, HN2, hB⟩
          case measure => simp [intOf]; omega
        case pos =>
          subst hkk; have hd : (K == K) = true := beq_self_eq_true K; have HX := Lib.hid (show (k : Int) = r from AtR.uniq (Or.inr ⟨k, rfl, HH.out.2 ⟨rfl, rfl⟩, HN.out⟩) HR.out); clear HN HH HR
          go_wp2_with fail
          go_returns
          exact ⟨ret_i12 HX.out, hB⟩

set_option maxRecDepth 100000 in
set_option maxHeartbeats 6400000 in
theorem rchk_a {v : Value} {x : List Cel} (h : x.length ≠ 16) (w : World) (h1 : IsR LCel w v x) : Calls Try.prog 16 #[v] w fun e w' => e = .returned (.int .i64 8) ∧ Below w.heap.size w w' := by
  obtain ⟨a, c, rfl, hr⟩ := id h1; obtain ⟨n, hn⟩ : ∃ n, x.length = n := ⟨_, rfl⟩; rw [hn] at h ⊢; clear hn h1 hr
  have d0 : ((n : Int) != 16) = true := by rw [bne_iff_ne]; omega
  clear h
  have hB0 := Below.refl w.heap.size w
  go_enter Try.func16, Try.ntmps16
  go_wp2_with fail
  go_returns
  exact ⟨rfl, hB0⟩

set_option maxRecDepth 100000 in
set_option maxHeartbeats 6400000 in
theorem rchk_b {v : Value} {x : List Cel} (hl : x.length = 16) (h : 12 < cnt x) (w : World) (h1 : IsR LCel w v x) : Calls Try.prog 16 #[v] w fun e w' => e = .returned (.int .i64 8) ∧ Below w.heap.size w w' := by
  have PC := fun (W : World) (u : Value) (h : IsR LCel W u x) => rcnt_is hl W h; obtain ⟨n, hn⟩ : ∃ n, cnt x = n := ⟨_, rfl⟩; rw [hn] at h PC; clear hn
  have H1 := Lib.hid h1
  obtain ⟨b, o, c, rfl, hc1C, hc2C, hC⟩ := IsR.open16 h1 hl; have C := Lib.hid hC; clear hC
  clear h1 hl C
  have d0 : decide (12 < (n : Int)) = true := decide_eq_true (by omega); clear h
  go_enter Try.func16, Try.ntmps16
  have hB0 := Below.refl w.heap.size w
  have hs0 := hB0.size
  go_wp2_with fail
  refine (PC _ _ (H1.out.below hB0)).mono ?_
  rintro e w1 ⟨rfl, hb⟩
  have hB1 : Below w.heap.size w w1 := below_thru hB0 hb
  have hs1 := hB1.size
  clear hB0 hs0
  clear hb
  go_wp2_with fail
  go_returns
  exact ⟨rfl, hB1⟩

theorem ms14 {a b k : Nat} (h : awy a k < awy b k) : awy (intOf (.int .i64 (a : Int))).toNat k < awy (intOf (.int .i64 (b : Int))).toNat k := by simpa [intOf] using h
set_option maxRecDepth 100000 in
set_option maxHeartbeats 6400000 in
theorem rchk_c {v : Value} {x : List Cel} {q : Int} (hl : x.length = 16) (hc : cnt x ≤ 12) (hky : Keys x) (hq : ChkX x q) (w : World) (h1 : IsR LCel w v x) : Calls Try.prog 16 #[v] w fun e w' => e = .returned (.int .i64 q) ∧ Below w.heap.size w w' := by
  have PC := fun (W : World) (u : Value) (h : IsR LCel W u x) => rcnt_is hl W h; obtain ⟨n, hn⟩ : ∃ n, cnt x = n := ⟨_, rfl⟩; rw [hn] at PC; have d0 : decide (12 < (n : Int)) = false := decide_eq_false (by omega); clear hn
  have H1 := Lib.hid h1; have PA := fun (W : World) (u : Value) (key r : Int) (hr : AtR x key r) (h : IsR LCel W u x) => rat_is hl hr W h; have HV := Lib.hid (fun h => valid_okR hl hc h); have HQ := Lib.hid hq; have HY := Lib.hid hky
  obtain ⟨b, o, c, rfl, hc1C, hc2C, hC⟩ := IsR.open16 h1 hl; have C := Lib.hid hC; clear hC
  clear h1 hl hc hq hky
  have hB0 := Below.refl w.heap.size w
  have hs0 := hB0.size
  go_enter Try.func16, Try.ntmps16
  go_wp2_with fail
  refine (PC _ _ (H1.out.below hB0)).mono ?_
  rintro e w1 ⟨rfl, hb⟩
  have hB1 : Below w.heap.size w w1 := below_thru hB0 hb
  have hs1 := hB1.size
  clear hB0 hs0
  clear hb
  go_wp2_with fail
  clear d0 PC
  go_loopw [3] (fun p3 wr => ∃ k : Nat, k ≤ 16 ∧ p3 = .int .i64 k ∧ Hid (∀ i, i < k → OkR x i) ∧ Below w.heap.size w wr) (fun p3 _ => 16 - (intOf p3).toNat)
  case atStart => exact ⟨0, by decide, rfl, Lib.hid (fun i hi => absurd hi (Nat.not_lt_zero i)), hB1⟩
  case round =>
    clear hB1 hs1
    obtain ⟨k, hk, rfl, HI, hB⟩ := hrel
    have hs := hB.size
    by_cases hlt : k < 16
    case neg =>
      have HX := Lib.hid (show (0 : Int) = q from HQ.out.good (HV.out (by have := HI.out; rw [show k = 16 by omega] at this; exact this))); have hd : decide ((k : Int) < 16) = false := decide_eq_false (by omega); clear HI hlt
      go_wp2_with fail
      go_returns
      exact ⟨ret_i12 HX.out, hB⟩
    case pos =>
      have HO := Lib.hid (fun h : OkR x k => okR_next HI.out h); have HB := Lib.hid (fun h : ¬ OkR x k => HQ.out.bad fun hv => h (hv.okR hlt)); clear HI
      have R := (C.out.below hB) k hlt; have RR := (C.out.below hB).range hlt; have r1 := R.1; have r2 := R.2.1; have r3 := R.2.2; have zr := lt_of_cell r3; clear R
      have HK := Lib.hid (HY.out.cel k)
      obtain ⟨f, hf⟩ : ∃ f, cel x k = f := ⟨_, rfl⟩; have HF := Lib.hid hf; rw [hf] at r1 r2 r3 RR HK; clear hf; obtain ⟨K, Q, U⟩ := f; simp only at r1 r2 r3 RR HK
      have i0 : (0 : Int) ≤ (k : Int) := (by omega); have i1 : (k : Int) < 16 := (by omega); have W1 : IntKind.i64.wrap ((k : Int) + 1) = ((k + 1 : Nat) : Int) := by rw [IntKind.wrap_i64]; omega
      have hB0 := hB
      have hs0 := hB0.size
      clear hB hs
      cases U with
      | false =>
        go_upto_region 7 with fail
        clear r1 r2 r3
        have EQ := fun (W : World) => eq_celz K Q false W
        by_cases hz : K = 0 ∧ Q = 0
        case pos =>
          obtain ⟨rfl, rfl⟩ := hz
          have HZ := Lib.hid (show OkR x k from Or.inl ⟨by rw [HF.out], HF.out⟩); have HI := Lib.hid (HO.out HZ.out); clear HB HO HF HZ
          go_wp2_with (first | (refine wpList_load_rangew rfl _ _ rfl RR rfl Try.underlying42 rfl (size_cel _ _ _) ?_) | (refine wpList_build9 rfl 42 _ rfl (us := #[]) (by rfl) (build_cel0 _) ?_))
          go_roundw
          case rel => exact ⟨k + 1, by omega, by go_num, HI, hB0⟩
          case measure => simp [intOf]; omega
        case neg =>
          have HX := Lib.hid (show (8 : Int) = q from HB.out fun h => by
            rcases h with ⟨_, h⟩ | ⟨h, _⟩
            · rw [HF.out] at h
              exact hz ⟨congrArg Cel.k h, congrArg Cel.p h⟩
            · rw [HF.out] at h
              cases h)
          have en : ((K == 0) && ((Q == 0) && (((false : Bool) == false) && true))) = false := by
            by_cases h1 : K = 0
            · have h2 : (Q == 0) = false := beq_false_of_ne fun h2 => hz ⟨h1, h2⟩
              rw [h2]; simp
            · rw [beq_false_of_ne h1]; rfl
          rw [en] at EQ; clear en HB HO HF hz
          go_wp2_with (first | (refine wpList_load_rangew rfl _ _ rfl RR rfl Try.underlying42 rfl (size_cel _ _ _) ?_) | (refine wpList_build9 rfl 42 _ rfl (us := #[]) (by rfl) (build_cel0 _) ?_))
          go_returns
          exact ⟨ret_i12 HX.out, hB0⟩
      | true =>
        clear RR
        by_cases hp : Q < 0
        case pos =>
          have d1 : decide (Q < 0) = true := decide_eq_true hp
          have HX := Lib.hid (show (8 : Int) = q from HB.out fun h => by
            rcases h with ⟨h, _⟩ | ⟨_, ⟨h, _⟩, _⟩
            · rw [HF.out] at h
              cases h
            · rw [HF.out] at h
              have : (0 : Int) ≤ Q := h
              omega); clear HB HO HF
          go_wp2_with fail
          go_returns
          exact ⟨ret_i12 HX.out, hB0⟩
        case neg =>
          by_cases hp2 : 16 ≤ Q
          case pos =>
            have d1 : decide (Q < 0) = false := decide_eq_false hp; have d2 : decide (16 ≤ Q) = true := decide_eq_true hp2
            have HX := Lib.hid (show (8 : Int) = q from HB.out fun h => by
              rcases h with ⟨h, _⟩ | ⟨_, ⟨_, h⟩, _⟩
              · rw [HF.out] at h
                cases h
              · rw [HF.out] at h
                have : Q < 16 := h
                omega); clear HB HO HF
            go_wp2_with fail
            go_returns
            exact ⟨ret_i12 HX.out, hB0⟩
          case neg =>
            have d1 : decide (Q < 0) = false := decide_eq_false hp; have d2 : decide (16 ≤ Q) = false := decide_eq_false hp2; have HP := Lib.hid (show 0 ≤ Q ∧ Q < 16 by omega); clear hp hp2
            obtain ⟨r, hr⟩ := AtR.ex x K; have HR := Lib.hid hr; clear hr
            go_wp2_with fail
            refine (PA _ _ K r HR.out (H1.out.below hB0)).mono ?_
            rintro e w1 ⟨rfl, hb⟩
            clear d1 d2 r2
            have hB1 : Below w.heap.size w w1 := below_thru hB0 hb
            have hs1 := hB1.size
            clear hB0 hs0
            clear hb
            have HS := Lib.hid (show (cel x k).u = true ∧ (cel x k).k = K by rw [HF.out]; exact ⟨rfl, rfl⟩)
            by_cases hrk : r = (k : Int)
            case pos =>
              have hd : (r != (k : Int)) = false := by rw [hrk]; exact bne_self_eq_false _
              have HE := Lib.hid (show ∀ m, m < k → ¬ Has x K m from fun m hm hh => by
                rcases HR.out with ⟨_, h⟩ | ⟨i, h, _, h2⟩
                · exact h m hh
                · rw [hrk] at h
                  obtain rfl : k = i := by omega
                  exact h2 m hm hh); clear HR
              have R := (C.out.below hB1) k hlt; rw [HF.out] at R; have r1 := R.1; have zr := lt_of_cell r1; clear R; simp only at r1
              have RH := fun W => rhom_is HK.out W; obtain ⟨h, hh⟩ : ∃ h, hom K = h := ⟨_, rfl⟩; have h16 := hom_lt K; rw [hh] at RH h16; have HH := Lib.hid hh; clear hh
              go_wp2_with fail
              refine (RH _).mono ?_
              rintro e w2 ⟨rfl, hb⟩
              clear hd r1 zr
              have hB2 : Below w.heap.size w w2 := below_thru hB1 hb
              have hs2 := hB2.size
              clear hB1 hs1
              clear hb
              go_wp2_with fail
              clear RH
              go_loopw [4] (fun p4 wq => ∃ n m : Nat, n ≤ awy h k ∧ (h + n) % 16 = m ∧ p4 = .int .i64 m ∧ Hid (∀ j, j < n → (cel x ((h + j) % 16)).u = true) ∧ Below w.heap.size w wq) (fun p4 _ => awy (intOf p4).toNat k)
              case atStart => exact ⟨0, h, Nat.zero_le _, by omega, rfl, Lib.hid (fun j hj => absurd hj (Nat.not_lt_zero j)), hB2⟩
              case round =>
                clear hB2 hs2
                obtain ⟨n, m, hn, hm, rfl, HN, hB⟩ := hrel
                have m16 : m < 16 := (by omega)
                by_cases hmk : m = k
                case pos =>
                  have hd : ((m : Int) != (k : Int)) = false := by rw [hmk]; exact bne_self_eq_false _
                  have HI := Lib.hid (HO.out (Or.inr ⟨HS.out.1, by rw [HF.out]; exact HP.out, by rw [HF.out]; exact HE.out, by
                    rw [HF.out]; intro j hj; simp only at hj ⊢; rw [HH.out] at hj ⊢; exact HN.out j (by unfold awy at hn hj; omega)⟩)); clear HO HB HF HN HE HS hn hm
                  go_wp2_with fail
                  go_roundw
                  case rel => exact ⟨k + 1, by omega, by go_num, HI, hB⟩
                  case measure => simp [intOf]; omega
                case neg =>
                  have hd : ((m : Int) != (k : Int)) = true := by rw [bne_iff_ne]; omega
                  have R := (C.out.below hB) m m16; have r3 := R.2.2; have zr := lt_of_cell r3; clear R; have j0 : (0 : Int) ≤ (m : Int) := (by omega); have j1 : (m : Int) < 16 := (by omega); have W2 : IntKind.i64.wrap ((m : Int) + 1) = ((m + 1 : Nat) : Int) := by rw [IntKind.wrap_i64]; omega
                  have i2 : (0 : Int) ≤ ((m + 1 : Nat) : Int) := (by omega)
                  have hlow : n < awy h k := (by unfold awy at hn ⊢; omega)
                  obtain ⟨U, hU⟩ : ∃ U, (cel x m).u = U := ⟨_, rfl⟩; rw [hU] at r3; cases U with
                  | false =>
                    have HX := Lib.hid (show (8 : Int) = q from HB.out fun hh => by
                      rcases hh with ⟨h, _⟩ | ⟨_, _, _, h2⟩
                      · rw [HS.out.1] at h
                        cases h
                      · rw [HS.out.2, HH.out] at h2
                        have := h2 n hlow
                        rw [hm, hU] at this
                        cases this); clear HB HO HF HS HE HN hU hm hn hlow
                    go_wp2_with fail
                    go_returns
                    exact ⟨ret_i12 HX.out, hB⟩
                  | true =>
                    have HN2 := Lib.hid (show ∀ j, j < n + 1 → (cel x ((h + j) % 16)).u = true from fun j hj => by
                      rcases Nat.lt_or_ge j n with g | g
                      · exact HN.out j g
                      · obtain rfl : j = n := by omega
                        rw [hm]
                        exact hU); clear HN hU
                    have HM := Lib.hid (show (h + (n + 1)) % 16 = (m + 1) % 16 by omega); have HLw := Lib.hid (show n + 1 ≤ awy h k from hlow); have HMe := Lib.hid (show awy ((m + 1) % 16) k < awy m k by unfold awy at hlow ⊢; omega); clear hm hn hlow
                    go_wp2_with fail
                    go_roundw
                    case rel => exact ⟨n + 1, (m + 1) % 16, HLw.out, HM.out, by go_num, HN2, hB⟩
                    case measure => exact ms14 HMe.out
            case neg =>
              have hd : (r != (k : Int)) = true := by rw [bne_iff_ne]; exact hrk
              have HX := Lib.hid (show (8 : Int) = q from HB.out fun h => by
                rcases h with ⟨h, _⟩ | ⟨_, _, h, _⟩
                · rw [HF.out] at h
                  cases h
                · rw [HF.out] at h
                  exact hrk (AtR.uniq HR.out (Or.inr ⟨k, rfl, ⟨hlt, HS.out⟩, h⟩))); clear HB HO HF
              go_wp2_with fail
              go_returns
              exact ⟨ret_i12 HX.out, hB1⟩

theorem rchk_is {v : Value} {x : List Cel} {q : Int} (hky : Keys x) (w : World) (h1 : IsR LCel w v x) (hq : ChkX x q) : Calls Try.prog 16 #[v] w fun e w' => e = .returned (.int .i64 q) ∧ Below w.heap.size w w' := by
  by_cases hl : x.length = 16
  · by_cases hc : cnt x ≤ 12
    · exact rchk_c hl hc hky hq w h1
    · rw [← hq.bad fun hv => hc hv.few]
      exact rchk_b hl (by omega) w h1
  · rw [← hq.bad fun hv => hl hv.len]
    exact rchk_a hl w h1


end Go.Proofs.Ytalfnmlbidohcaa
