/-
  Package probe, walked: Check.
-/
import Derived.Test.YtalfnmlbidohcaaPbA
namespace Go.Proofs.Ytalfnmlbidohcaa
open Go.RowKit

theorem noStood_cel : Try.prog.stoodInHeld 42 = false := by kernel_rfl
theorem partC_0 (K Q : Int) (U : Bool) (W : World) : (Go.part 23 #[.int .u32 K, .int .i64 Q, .bool U] 0).run Try.prog W = .ok (.int .u32 K) W := by
  unfold Go.part
  simp [Sem.run_bind]
theorem partC_1 (K Q : Int) (U : Bool) (W : World) : (Go.part 3 #[.int .u32 K, .int .i64 Q, .bool U] 1).run Try.prog W = .ok (.int .i64 Q) W := by
  unfold Go.part
  simp [Sem.run_bind]
theorem partC_2 (K Q : Int) (U : Bool) (W : World) : (Go.part 4 #[.int .u32 K, .int .i64 Q, .bool U] 2).run Try.prog W = .ok (.bool U) W := by
  unfold Go.part
  simp [Sem.run_bind]
/-- Cells compared. -/
theorem eq_cel (K K' Q Q' : Int) (U U' : Bool) (W : World) : (Op.equalIn 10000 42 (.agg [.int .u32 K, .int .i64 Q, .bool U].toArray) (.agg [.int .u32 K', .int .i64 Q', .bool U'].toArray)).run Try.prog W = .ok ((K == K') && ((Q == Q') && ((U == U') && true))) W := by
  rw [show (10000 : Nat) = 9999 + 1 from rfl, run_equalIn_struct W 9999 42 _ _ Try.underlying42 noStood_cel]
  have A0 := run_equalIn_int (P := Try.prog) W 9998 23 .u32 .u32 K K' Try.underlying23
  have A1 := run_equalIn_int (P := Try.prog) W 9998 3 .i64 .i64 Q Q' Try.underlying3
  have A2 := run_equalIn_bool' (P := Try.prog) W 9998 4 U U' Try.underlying4
  simp only [Program.fieldsOf, Try.underlying42]
  refine (eqF_cons (by decide) (partC_0 K Q U W) (partC_0 K' Q' U' W) A0).trans (and_run ?_)
  refine (eqF_cons (by decide) (partC_1 K Q U W) (partC_1 K' Q' U' W) A1).trans (and_run ?_)
  refine (eqF_cons (by decide) (partC_2 K Q U W) (partC_2 K' Q' U' W) A2).trans (and_run ?_)
  rfl
theorem eq_celz (K Q : Int) (U : Bool) (W : World) : (Op.equalIn 10000 42 (.agg [.int .u32 K, .int .i64 Q, .bool U].toArray) (.agg celz.toArray)).run Try.prog W = .ok ((K == 0) && ((Q == 0) && ((U == false) && true))) W := eq_cel K 0 Q 0 U false W
/-- What Check has seen of a cell. -/
def OkC (x : List Cel) (i : Nat) : Prop := ((cel x i).u = false ∧ cel x i = Cel.zero) ∨ ((cel x i).u = true ∧ (∃ n, Look x (cel x i).k n ∧ lst (cel x i).k n = i) ∧ 0 ≤ (cel x i).p ∧ (cel x i).p < 16)
theorem Valid.okC {x : List Cel} (hv : Valid x) {i : Nat} (hi : i < 16) : OkC x i := by
  cases e : (cel x i).u with
  | false => exact Or.inl ⟨e, hv.zer i hi e⟩
  | true => exact Or.inr ⟨e, ⟨_, hv.there hi e, awy_lst _ hi⟩, hv.plc i hi e⟩
theorem okC_next {x : List Cel} {k : Nat} (h : ∀ i, i < k → OkC x i) (hk : OkC x k) : ∀ i, i < k + 1 → OkC x i := fun i hi => by
  rcases Nat.lt_or_ge i k with q | q
  · exact h i q
  · obtain rfl : i = k := by omega
    exact hk

set_option maxRecDepth 100000 in
set_option maxHeartbeats 6400000 in
theorem pchk_a {v : Value} {x : List Cel} (h : x.length ≠ 16) (w : World) (h1 : IsR LCel w v x) : Calls Try.prog 15 #[v] w fun e w' => e = .returned (.int .i64 8) ∧ Below w.heap.size w w' := by
  obtain ⟨a, c, rfl, hr⟩ := id h1; obtain ⟨n, hn⟩ : ∃ n, x.length = n := ⟨_, rfl⟩; rw [hn] at h ⊢; clear hn h1 hr
  have d0 : ((n : Int) != 16) = true := by rw [bne_iff_ne]; omega
  clear h
  have hB0 := Below.refl w.heap.size w
  go_enter Try.func15, Try.ntmps15
  go_wp2_with fail
  go_returns
  exact ⟨rfl, hB0⟩

set_option maxRecDepth 100000 in
set_option maxHeartbeats 6400000 in
theorem pchk_b {v : Value} {x : List Cel} (hl : x.length = 16) (h : 12 < cnt x) (w : World) (h1 : IsR LCel w v x) : Calls Try.prog 15 #[v] w fun e w' => e = .returned (.int .i64 8) ∧ Below w.heap.size w w' := by
  have PC := fun (W : World) (u : Value) (h : IsR LCel W u x) => pcnt_is hl W h; obtain ⟨n, hn⟩ : ∃ n, cnt x = n := ⟨_, rfl⟩; rw [hn] at h PC; clear hn
  have H1 := Lib.hid h1
  obtain ⟨b, o, c, rfl, hc1C, hc2C, hC⟩ := IsR.open16 h1 hl; have C := Lib.hid hC; clear hC
  clear h1 hl C
  have d0 : decide (12 < (n : Int)) = true := decide_eq_true (by omega); clear h
  go_enter Try.func15, Try.ntmps15
  have hB0 := Below.refl w.heap.size w
  have hs0 := hB0.size
  go_wp2_with fail
  refine (PC _ _ (H1.out.below hB0)).mono ?_
  rintro e w1 ⟨rfl, hb⟩
  have hB1 : Below w.heap.size w w1 := below_thru hB0 hb
  have hs1 := hB1.size
  clear hB0 hs0
  clear hb
  go_wp2_with fail
  go_returns
  exact ⟨rfl, hB1⟩

set_option maxRecDepth 100000 in
set_option maxHeartbeats 6400000 in
theorem pchk_c {v : Value} {x : List Cel} {q : Int} (hl : x.length = 16) (hc : cnt x ≤ 12) (hq : ChkX x q) (w : World) (h1 : IsR LCel w v x) : Calls Try.prog 15 #[v] w fun e w' => e = .returned (.int .i64 q) ∧ Below w.heap.size w w' := by
  have PC := fun (W : World) (u : Value) (h : IsR LCel W u x) => pcnt_is hl W h; obtain ⟨n, hn⟩ : ∃ n, cnt x = n := ⟨_, rfl⟩; rw [hn] at PC; have d0 : decide (12 < (n : Int)) = false := decide_eq_false (by omega); clear hn
  have H1 := Lib.hid h1; have PL := fun (W : World) (u : Value) (key : Int) (m : Nat) (hm : Look x key m) (h : IsR LCel W u x) => plook_is hl hm W h; have HE := Lib.hid (fun key => Look.ex hl hc key); have HV := Lib.hid (fun h => valid_look hl hc h); have HQ := Lib.hid hq
  obtain ⟨b, o, c, rfl, hc1C, hc2C, hC⟩ := IsR.open16 h1 hl; have C := Lib.hid hC; clear hC
  clear h1 hl hc hq
  have hB0 := Below.refl w.heap.size w
  have hs0 := hB0.size
  go_enter Try.func15, Try.ntmps15
  go_wp2_with fail
  refine (PC _ _ (H1.out.below hB0)).mono ?_
  rintro e w1 ⟨rfl, hb⟩
  have hB1 : Below w.heap.size w w1 := below_thru hB0 hb
  have hs1 := hB1.size
  clear hB0 hs0
  clear hb
  go_wp2_with fail
  clear d0 PC
  go_loopw [17] (fun p17 wr => ∃ k : Nat, k ≤ 16 ∧ p17 = .int .i64 k ∧ Hid (∀ i, i < k → OkC x i) ∧ Below w.heap.size w wr) (fun p17 _ => 16 - (intOf p17).toNat)
  case atStart => exact ⟨0, by decide, rfl, Lib.hid (fun i hi => absurd hi (Nat.not_lt_zero i)), hB1⟩
  case round =>
    clear hB1 hs1
    obtain ⟨k, hk, rfl, HI, hB⟩ := hrel
    have hs := hB.size
    by_cases hlt : k < 16
    case neg =>
      have HX := Lib.hid (show (0 : Int) = q from HQ.out.good (HV.out (by have := HI.out; rw [show k = 16 by omega] at this; exact this))); have hd : decide ((k : Int) < 16) = false := decide_eq_false (by omega); clear HI hlt
      go_wp2_with fail
      go_returns
      exact ⟨ret_i12 HX.out, hB⟩
    case pos =>
      have R := (C.out.below hB).range hlt; have HO := Lib.hid (fun h : OkC x k => okC_next HI.out h); have HB := Lib.hid (fun h : ¬ OkC x k => HQ.out.bad fun hv => h (hv.okC hlt)); clear HI
      obtain ⟨f, hf⟩ : ∃ f, cel x k = f := ⟨_, rfl⟩; have HF := Lib.hid hf; rw [hf] at R; clear hf; obtain ⟨K, Q, U⟩ := f; simp only at R
      have i0 : (0 : Int) ≤ (k : Int) := (by omega); have i1 : (k : Int) < 16 := (by omega); have zr := lt_of_cell (R 0 _ rfl); have W1 : IntKind.i64.wrap ((k : Int) + 1) = ((k + 1 : Nat) : Int) := by rw [IntKind.wrap_i64]; omega
      have hB0 := hB
      have hs0 := hB0.size
      have d_c_0 := hs0
      go_upto_region 6 with (first
        | (refine wpList_load_rangew rfl _ _ rfl R rfl Try.underlying42 rfl (size_cel _ _ _) ?_)
        | (refine wpList_store_box (cs := [.int .u32 K, .int .i64 Q, .bool U]) rfl _ _ _ rfl (Box.newc (l := celz) rfl rfl) rfl rfl (size_cel _ _ _) rfl (one_cel _ _ _) ?_; intro W0_0 hW0_0))
      have hN : Below wr.heap.size wr W0_0 := (hW0_0.below _ _ (by omega) ((Below.refl _ wr).alloc (Nat.le_refl _) _))
      have x_c1 : Box W0_0 (wr.heap.size) ([.int .u32 K, .int .i64 Q, .bool U]) := hW0_0.box
      have hB1 : Below w.heap.size w W0_0 := below_thru hB0 hN
      have hs1 := hB1.size
      clear hB0 hs0
      clear hN hW0_0
      clear R zr hB hs
      have cc := (x_c1).c 2 _ rfl
      have zc := (x_c1).lt
      cases U with
      | false =>
        go_upto_region 7 with fail
        clear cc zc
        have EQ := fun (W : World) => eq_celz K Q false W
        by_cases hz : K = 0 ∧ Q = 0
        case pos =>
          obtain ⟨rfl, rfl⟩ := hz
          have HZ := Lib.hid (show OkC x k from Or.inl ⟨by rw [HF.out], HF.out⟩); have HI := Lib.hid (HO.out HZ.out); clear HB HO HF HZ
          go_wp2_with (first
            | (refine wpList_load_box9 rfl _ _ rfl x_c1 rfl Try.underlying42 rfl (size_cel _ _ _) ?_)
            | (refine wpList_build9 rfl 42 _ rfl (us := #[]) (by rfl) (build_cel0 _) ?_))
          go_roundw
          case rel => exact ⟨k + 1, by omega, by go_num, HI, hB1⟩
          case measure => simp [intOf]; omega
        case neg =>
          have HX := Lib.hid (show (8 : Int) = q from HB.out fun h => by
            rcases h with ⟨_, h⟩ | ⟨h, _⟩
            · rw [HF.out] at h
              exact hz ⟨congrArg Cel.k h, congrArg Cel.p h⟩
            · rw [HF.out] at h
              cases h)
          have en : ((K == 0) && ((Q == 0) && (((false : Bool) == false) && true))) = false := by
            by_cases h1 : K = 0
            · have h2 : (Q == 0) = false := beq_false_of_ne fun h2 => hz ⟨h1, h2⟩
              rw [h2]; simp
            · rw [beq_false_of_ne h1]; rfl
          rw [en] at EQ; clear en HB HO HF hz
          go_wp2_with (first
            | (refine wpList_load_box9 rfl _ _ rfl x_c1 rfl Try.underlying42 rfl (size_cel _ _ _) ?_)
            | (refine wpList_build9 rfl 42 _ rfl (us := #[]) (by rfl) (build_cel0 _) ?_))
          go_returns
          exact ⟨ret_i12 HX.out, hB1⟩
      | true =>
        obtain ⟨m, hm, _⟩ := HE.out K; have HL := Lib.hid hm; clear hm
        have ck := (x_c1).c 0 _ rfl
        have zk := (x_c1).lt
        go_wp2_with fail
        refine (PL _ _ K m HL.out (H1.out.below hB1)).mono ?_
        rintro e w2 ⟨rfl, hb⟩
        have hB2 : Below w.heap.size w w2 := below_thru hB1 hb
        have hs2 := hB2.size
        have x_c2 : Box w2 (wr.heap.size) ([.int .u32 K, .int .i64 Q, .bool true]) := Box.below x_c1 hb
        clear hB1 hs1 x_c1
        clear hb
        have cp := (x_c2).c 1 _ rfl
        have zp := (x_c2).lt
        obtain ⟨j, hj⟩ : ∃ j, lst K m = j := ⟨_, rfl⟩; rw [hj]; have HJ := Lib.hid hj; clear hj; clear ck zk cc zc
        by_cases hjk : j = k
        case pos =>
          have hd : ((j : Int) != (k : Int)) = false := by rw [hjk]; exact bne_self_eq_false _
          by_cases hp : 0 ≤ Q ∧ Q < 16
          case pos =>
            go_wp2_with fail
            refine (ppl_is (p := Q) (b := true) ⟨fun _ => hp, fun _ => rfl⟩ _).mono ?_
            rintro e w3 ⟨rfl, hb⟩
            have hB3 : Below w.heap.size w w3 := below_thru hB2 hb
            have hs3 := hB3.size
            have x_c3 : Box w3 (wr.heap.size) ([.int .u32 K, .int .i64 Q, .bool true]) := Box.below x_c2 hb
            clear hB2 hs2 x_c2
            clear hb
            have HI := HO.out (Or.inr ⟨by rw [HF.out], ⟨m, by rw [HF.out]; exact HL.out, by rw [HF.out]; exact HJ.out.trans hjk⟩, by rw [HF.out]; exact hp⟩); have HI2 := Lib.hid HI; clear HB HO HF HI
            go_wp2_with fail
            go_roundw
            case rel => exact ⟨k + 1, by omega, by go_num, HI2, hB3⟩
            case measure => simp [intOf]; omega
          case neg =>
            go_wp2_with fail
            refine (ppl_is (p := Q) (b := false) ⟨fun h => (Bool.false_ne_true h).elim, fun h => absurd h hp⟩ _).mono ?_
            rintro e w3 ⟨rfl, hb⟩
            have hB3 : Below w.heap.size w w3 := below_thru hB2 hb
            have hs3 := hB3.size
            have x_c3 : Box w3 (wr.heap.size) ([.int .u32 K, .int .i64 Q, .bool true]) := Box.below x_c2 hb
            clear hB2 hs2 x_c2
            clear hb
            have HX := Lib.hid (show (8 : Int) = q from HB.out fun h => by
              rcases h with ⟨h, _⟩ | ⟨_, _, h⟩
              · rw [HF.out] at h
                cases h
              · rw [HF.out] at h
                exact hp h); clear HB HO HF
            go_wp2_with fail
            go_returns
            exact ⟨ret_i12 HX.out, hB3⟩
        case neg =>
          have hd : ((j : Int) != (k : Int)) = true := by rw [bne_iff_ne]; omega
          have HX := Lib.hid (show (8 : Int) = q from HB.out fun h => by
            rcases h with ⟨h, _⟩ | ⟨_, ⟨n2, h2, e2⟩, _⟩
            · rw [HF.out] at h
              cases h
            · rw [HF.out] at h2 e2
              rw [← h2.uniq HL.out] at HJ
              exact hjk (HJ.out.symm.trans e2)); clear HB HO HF
          go_wp2_with fail
          go_returns
          exact ⟨ret_i12 HX.out, hB2⟩

theorem pchk_is {v : Value} {x : List Cel} {q : Int} (w : World) (h1 : IsR LCel w v x) (hq : ChkX x q) : Calls Try.prog 15 #[v] w fun e w' => e = .returned (.int .i64 q) ∧ Below w.heap.size w w' := by
  by_cases hl : x.length = 16
  · by_cases hc : cnt x ≤ 12
    · exact pchk_c hl hc hq w h1
    · rw [← hq.bad fun hv => hc hv.few]
      exact pchk_b hl (by omega) w h1
  · rw [← hq.bad fun hv => hl hv.len]
    exact pchk_a hl w h1


end Go.Proofs.Ytalfnmlbidohcaa
