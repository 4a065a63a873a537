/-
  Package probe, walked: Home, isPlace, behind, away, count, look.
-/
import Derived.Test.YtalfnmlbidohcaaPbMath
namespace Go.Proofs.Ytalfnmlbidohcaa
open Go.RowKit

theorem size_cel (a : Int) (b : Int) (u : Bool) : (Try.prog.info? 42).map (·.size) = some [Value.int .u32 a, .int .i64 b, .bool u].length := by show _ = some 3; kernel_rfl
theorem one_cel (a : Int) (b : Int) (u : Bool) : ([.int .u32 a, .int .i64 b, .bool u] : List Value).toArray.all (·.oneCell') = true := all_oneCell_toArray (fun u hu => by
  simp at hu
  rcases hu with rfl | rfl | rfl <;> rfl)
def celz : List Value := [.int .u32 0, .int .i64 0, .bool false]
theorem build_cel0 (W : World) : (Instr.build 42 #[]).run Try.prog W = .ok (.agg celz.toArray) W := by kernel_rfl
/-- The cells of a row. -/
def Cells (w : World) (b o : Nat) (x : List Cel) : Prop := ∀ i, i < 16 → w.cell? ⟨b, o + i * 3, none⟩ = some (.int .u32 (cel x i).k) ∧ w.cell? ⟨b, o + i * 3 + 1, none⟩ = some (.int .i64 (cel x i).p) ∧ w.cell? ⟨b, o + i * 3 + 2, none⟩ = some (.bool (cel x i).u)
theorem Cells.below {w w' : World} {b o : Nat} {x : List Cel} (h : Cells w b o x) (hb : Below w.heap.size w w') : Cells w' b o x := fun i hi =>
  ⟨cell_below hb (h i hi).1, cell_below hb (h i hi).2.1, cell_below hb (h i hi).2.2⟩
theorem Cells.range {w : World} {b o : Nat} {x : List Cel} (h : Cells w b o x) {i : Nat} (hi : i < 16) : w.rangeAt b (o + i * 3) [.int .u32 (cel x i).k, .int .i64 (cel x i).p, .bool (cel x i).u] := fun j v hj => by
  match j, hj with
  | 0, hj => cases hj; exact (h i hi).1
  | 1, hj => cases hj; exact (h i hi).2.1
  | 2, hj => cases hj; exact (h i hi).2.2
theorem IsR.open16 {w : World} {v : Value} {x : List Cel} (h : IsR LCel w v x) (hl : x.length = 16) : ∃ b o c, v = .slice (some ⟨b, o, Option.none⟩) 16 c ∧ 16 ≤ c ∧ c ≤ 9223372036854775807 ∧ Cells w b o x := by
  obtain ⟨a, c, rfl, hr⟩ := id h
  obtain ⟨b, o, rfl, _⟩ := h.get 3 rfl (cel_at (x := x) (i := 0) (by omega))
  rw [hl]
  refine ⟨b, o, c, rfl, by have := hr.room; omega, hr.most, fun i hi => ?_⟩
  obtain ⟨b', o', e, hc⟩ := h.get 3 rfl (cel_at (x := x) (i := i) (by omega))
  cases e
  exact ⟨hc 0 _ rfl, hc 1 _ rfl, hc 2 _ rfl⟩
/-- The keys of a row are numbers of 32 bits. -/
def Keys (x : List Cel) : Prop := ∀ c, c ∈ x → 0 ≤ c.k ∧ c.k ≤ 4294967295
theorem Keys.cel {x : List Cel} (h : Keys x) (i : Nat) : 0 ≤ (cel x i).k ∧ (cel x i).k ≤ 4294967295 := by
  by_cases q : i < x.length
  · exact h _ (cel_mem q)
  · have : Go.Proofs.Ytalfnmlbidohcaa.cel x i = Cel.zero := by
      unfold Go.Proofs.Ytalfnmlbidohcaa.cel
      rw [List.getD_eq_getElem?_getD, List.getElem?_eq_none (by omega)]
      rfl
    rw [this]
    exact ⟨by decide, by decide⟩
theorem cnt_succ {x : List Cel} {k : Nat} (h : k < x.length) : cnt (x.take (k + 1)) = cnt (x.take k) + (if (cel x k).u then 1 else 0) := by
  unfold cnt
  rw [List.take_add_one, cel_at h, List.countP_append]
  simp
theorem cnt_all {x : List Cel} (h : x.length = 16) : cnt (x.take 16) = cnt x := by rw [List.take_of_length_le (by omega)]

theorem hom_eq (k : Int) : k * 2654435769 % 4294967296 / 268435456 = ((hom k : Nat) : Int) := by
  unfold hom
  have h1 : 0 ≤ k * 2654435769 % 4294967296 := Int.emod_nonneg _ (by decide)
  omega

set_option maxRecDepth 100000 in
set_option maxHeartbeats 6400000 in
theorem hom_is (k : Int) (w : World) : Calls Try.prog 13 #[.int .u32 k] w fun e w' => e = .returned (.int .i64 (hom k : Nat)) ∧ Below w.heap.size w w' := by
  have hB0 := Below.refl w.heap.size w
  go_enter Try.func13, Try.ntmps13
  go_wp2_with fail
  go_returns
  exact ⟨ret_i12 (hom_eq k), hB0⟩

set_option maxRecDepth 100000 in
set_option maxHeartbeats 6400000 in
theorem bhd_is {i n m : Nat} (hi : i < 16) (hn : n ≤ 16) (hm : (i + n) % 16 = m) (w : World) : Calls Try.prog 33 #[.int .i64 (i : Int), .int .i64 (n : Int)] w fun e w' => e = .returned (.int .i64 (m : Nat)) ∧ Below w.heap.size w w' := by
  have hB0 := Below.refl w.heap.size w
  have W1 : IntKind.i64.wrap ((i : Int) + (n : Int)) = ((i + n : Nat) : Int) := by rw [IntKind.wrap_i64]; omega
  have HM := Lib.hid hm; have i0 : (0 : Int) ≤ ((i + n : Nat) : Int) := (by omega); clear hi hn hm
  go_enter Try.func33, Try.ntmps33
  go_wp2_with fail
  go_returns
  refine ⟨ret_i12 ?_, hB0⟩
  have := HM.out; omega

set_option maxRecDepth 100000 in
set_option maxHeartbeats 6400000 in
theorem awy_is {f t m : Nat} (hf : f < 16) (ht : t < 16) (hm : awy f t = m) (w : World) : Calls Try.prog 34 #[.int .i64 (f : Int), .int .i64 (t : Int)] w fun e w' => e = .returned (.int .i64 (m : Nat)) ∧ Below w.heap.size w w' := by
  have hB0 := Below.refl w.heap.size w
  obtain ⟨n, hn⟩ : ∃ n, t + 16 - f = n := ⟨_, rfl⟩
  have W1 : IntKind.i64.wrap ((t : Int) - (f : Int)) = (t : Int) - (f : Int) := by rw [IntKind.wrap_i64]; omega
  have W2 : IntKind.i64.wrap ((t : Int) - (f : Int) + 16) = (n : Int) := by rw [IntKind.wrap_i64]; omega
  have HM := Lib.hid (show n % 16 = m by rw [← hm, ← hn]; rfl); have i0 : (0 : Int) ≤ (n : Int) := (by omega); clear hf ht hm hn
  go_enter Try.func34, Try.ntmps34
  go_wp2_with fail
  go_returns
  refine ⟨ret_i12 ?_, hB0⟩
  have := HM.out; omega

set_option maxRecDepth 100000 in
set_option maxHeartbeats 6400000 in
theorem ppl_a {p : Int} (h : p < 0) (w : World) : Calls Try.prog 29 #[.int .i64 p] w fun e w' => e = .returned (.bool false) ∧ Below w.heap.size w w' := by
  have d0 : decide (0 ≤ p) = false := decide_eq_false (by omega)
  have hB0 := Below.refl w.heap.size w; clear h
  go_enter Try.func29, Try.ntmps29
  go_wp2_with fail
  go_returns
  exact ⟨rfl, hB0⟩

set_option maxRecDepth 100000 in
set_option maxHeartbeats 6400000 in
theorem ppl_b {p : Int} (h : 0 ≤ p) (h2 : 16 ≤ p) (w : World) : Calls Try.prog 29 #[.int .i64 p] w fun e w' => e = .returned (.bool false) ∧ Below w.heap.size w w' := by
  have d0 : decide (0 ≤ p) = true := decide_eq_true (by omega)
  have d1 : decide (p < 16) = false := decide_eq_false (by omega)
  have hB0 := Below.refl w.heap.size w; clear h h2
  go_enter Try.func29, Try.ntmps29
  go_wp2_with fail
  go_returns
  exact ⟨rfl, hB0⟩

set_option maxRecDepth 100000 in
set_option maxHeartbeats 6400000 in
theorem ppl_c {p : Int} (h : 0 ≤ p) (h2 : p < 16) (w : World) : Calls Try.prog 29 #[.int .i64 p] w fun e w' => e = .returned (.bool true) ∧ Below w.heap.size w w' := by
  have d0 : decide (0 ≤ p) = true := decide_eq_true (by omega)
  have d1 : decide (p < 16) = true := decide_eq_true (by omega)
  have hB0 := Below.refl w.heap.size w; clear h h2
  go_enter Try.func29, Try.ntmps29
  go_wp2_with fail
  go_returns
  exact ⟨rfl, hB0⟩

theorem ppl_is {p : Int} {b : Bool} (hb : b = true ↔ 0 ≤ p ∧ p < 16) (w : World) : Calls Try.prog 29 #[.int .i64 p] w fun e w' => e = .returned (.bool b) ∧ Below w.heap.size w w' := by
  by_cases h : p < 0
  · rw [bool_eq12 hb (c := false) ⟨fun h => (Bool.false_ne_true h).elim, fun h => by omega⟩]
    exact ppl_a h w
  · by_cases h2 : 16 ≤ p
    · rw [bool_eq12 hb (c := false) ⟨fun h => (Bool.false_ne_true h).elim, fun h => by omega⟩]
      exact ppl_b (by omega) h2 w
    · rw [hb.2 ⟨by omega, by omega⟩]
      exact ppl_c (by omega) (by omega) w

set_option maxRecDepth 100000 in
set_option maxHeartbeats 6400000 in
theorem pcnt_is {v : Value} {x : List Cel} (hl : x.length = 16) (w : World) (h1 : IsR LCel w v x) : Calls Try.prog 28 #[v] w fun e w' => e = .returned (.int .i64 (cnt x : Nat)) ∧ Below w.heap.size w w' := by
  obtain ⟨b, o, c, rfl, hc1C, hc2C, hC⟩ := IsR.open16 h1 hl; have C := Lib.hid hC; clear hC
  have HL := Lib.hid hl; clear h1 hl
  have hB0 := Below.refl w.heap.size w
  have hs0 := hB0.size
  go_enter Try.func28, Try.ntmps28
  go_wp2_with fail
  go_loopw [8, 3] (fun p8 p3 wr => ∃ k n : Nat, k ≤ 16 ∧ p8 = .int .i64 k ∧ p3 = .int .i64 n ∧ Hid (n = cnt (x.take k)) ∧ Below w.heap.size w wr) (fun p8 _ _ => 16 - (intOf p8).toNat)
  case atStart => exact ⟨0, 0, by decide, rfl, rfl, Lib.hid rfl, hB0⟩
  case round =>
    clear hB0 hs0
    obtain ⟨k, n, hk, rfl, rfl, HN, hB⟩ := hrel
    by_cases hlt : k < 16
    case neg =>
      have HX := Lib.hid (show ((n : Nat) : Int) = ((cnt x : Nat) : Int) by have := HN.out; rw [show k = 16 by omega, cnt_all HL.out] at this; omega); have hd : decide ((k : Int) < 16) = false := decide_eq_false (by omega); clear HN hlt
      go_wp2_with fail
      go_returns
      exact ⟨ret_i12 HX.out, hB⟩
    case pos =>
      have R := (C.out.below hB).range hlt; have HS := Lib.hid (cnt_succ (x := x) (k := k) (by rw [HL.out]; exact hlt)); have HM := Lib.hid (show n ≤ 16 by have := HN.out; have h2 := cnt_len (x.take k); rw [List.length_take, HL.out] at h2; omega)
      obtain ⟨f, hf⟩ : ∃ f, cel x k = f := ⟨_, rfl⟩; rw [hf] at R HS; clear hf; obtain ⟨K, Q, U⟩ := f; simp only at R HS
      have i0 : (0 : Int) ≤ (k : Int) := (by omega); have i1 : (k : Int) < 16 := (by omega); have zr := lt_of_cell (R 0 _ rfl); have W1 : IntKind.i64.wrap ((k : Int) + 1) = ((k + 1 : Nat) : Int) := by rw [IntKind.wrap_i64]; omega
      have W2 : IntKind.i64.wrap ((n : Int) + 1) = ((n + 1 : Nat) : Int) := by rw [IntKind.wrap_i64]; have := HM.out; omega
      have hB0 := hB
      have hs0 := hB0.size
      have d_c_0 := hs0
      go_upto_region 5 with (first
        | (refine wpList_load_rangew rfl _ _ rfl R rfl Try.underlying42 rfl (size_cel _ _ _) ?_)
        | (refine wpList_store_box (cs := [.int .u32 K, .int .i64 Q, .bool U]) rfl _ _ _ rfl (Box.newc (l := celz) rfl rfl) rfl rfl (size_cel _ _ _) rfl (one_cel _ _ _) ?_; intro W0_0 hW0_0))
      have hN : Below wr.heap.size wr W0_0 := (hW0_0.below _ _ (by omega) ((Below.refl _ wr).alloc (Nat.le_refl _) _))
      have x_c1 : Box W0_0 (wr.heap.size) ([.int .u32 K, .int .i64 Q, .bool U]) := hW0_0.box
      have hB1 : Below w.heap.size w W0_0 := below_thru hB0 hN
      have hs1 := hB1.size
      clear hB0 hs0
      clear hN hW0_0
      have cc := (x_c1).c 2 _ rfl
      have zc := (x_c1).lt
      clear R zr hB
      cases U with
      | true =>
        have HN2 := Lib.hid (show n + 1 = cnt (x.take (k + 1)) by rw [HS.out, HN.out]; rfl)
        go_wp2_with fail
        go_roundw
        case rel => exact ⟨k + 1, n + 1, by omega, by go_num, by go_num, HN2, hB1⟩
        case measure => simp [intOf]; omega
      | false =>
        have HN2 := Lib.hid (show n = cnt (x.take (k + 1)) by rw [HS.out, HN.out]; rfl)
        go_wp2_with fail
        go_roundw
        case rel => exact ⟨k + 1, n, by omega, by go_num, by go_num, HN2, hB1⟩
        case measure => simp [intOf]; omega

theorem ret_t2 {a b c d : Value} (h : a = c) (k : b = d) : Ending.returned (.tuple #[a, b]) = .returned (.tuple #[c, d]) := by rw [h, k]
set_option maxRecDepth 100000 in
set_option maxHeartbeats 6400000 in
theorem plook_is {v : Value} {x : List Cel} {key : Int} {n : Nat} (hl : x.length = 16) (hn : Look x key n) (w : World) (h1 : IsR LCel w v x) : Calls Try.prog 27 #[v, .int .u32 key] w fun e w' => e = .returned (.tuple #[.int .i64 (lst key n : Nat), .int .i64 ((n + 1 : Nat) : Int)]) ∧ Below w.heap.size w w' := by
  obtain ⟨b, o, c, rfl, hc1C, hc2C, hC⟩ := IsR.open16 h1 hl; have C := Lib.hid hC; clear hC
  have HN := Lib.hid hn; have n16 := hn.1; clear h1 hl hn
  have HO := fun W => hom_is key W; have hh := hom_lt key; obtain ⟨h, hh0⟩ : ∃ h, hom key = h := ⟨_, rfl⟩; rw [hh0] at HO hh; have HH := Lib.hid hh0; clear hh0
  have hB0 := Below.refl w.heap.size w
  have hs0 := hB0.size
  go_enter Try.func27, Try.ntmps27
  go_wp2_with fail
  go_loopw [7] (fun p7 wr => ∃ k : Nat, k ≤ n ∧ p7 = .int .i64 k ∧ Below w.heap.size w wr) (fun p7 _ => 16 - (intOf p7).toNat)
  case atStart => exact ⟨0, Nat.zero_le _, rfl, hB0⟩
  case round =>
    clear hB0 hs0
    obtain ⟨k, hk, rfl, hB⟩ := hrel
    have hs := hB.size; have i0 : (0 : Int) ≤ (k : Int) := (by omega); have i1 : (k : Int) < 16 := (by omega)
    have W1 : IntKind.i64.wrap ((k : Int) + 1) = ((k + 1 : Nat) : Int) := by rw [IntKind.wrap_i64]; omega
    obtain ⟨m, hm⟩ : ∃ m, (h + k) % 16 = m := ⟨_, rfl⟩; have BH := fun W => bhd_is (i := h) (n := k) hh (by omega) hm W; have m16 : m < 16 := (by omega); have HM := Lib.hid (show lst key k = m by unfold lst; rw [HH.out]; exact hm); clear hm
    have hB0 := hB
    have hs0 := hB0.size
    clear hB hs
    go_wp2_with fail
    refine (HO _).mono ?_
    rintro e w1 ⟨rfl, hb⟩
    have hB1 : Below w.heap.size w w1 := below_thru hB0 hb
    have hs1 := hB1.size
    clear hB0 hs0
    clear hb
    go_wp2_with fail
    refine (BH _).mono ?_
    rintro e w2 ⟨rfl, hb⟩
    have hB2 : Below w.heap.size w w2 := below_thru hB1 hb
    have hs2 := hB2.size
    clear hB1 hs1
    clear hb
    have R := (C.out.below hB2) m m16; have r1 := R.1; have r3 := R.2.2; have zr := lt_of_cell r1; clear R
    have j0 : (0 : Int) ≤ (m : Int) := (by omega); have j1 : (m : Int) < 16 := (by omega)
    by_cases hkn : k = n
    case neg =>
      obtain ⟨e1, e2⟩ := stp_f (HN.out.2.2 k (by omega)); have hd := beq_false_of_ne e2; rw [show (hom key + k) % 16 = m from HM.out] at e1 hd; rw [e1] at r3; clear e1 e2
      obtain ⟨K, hK⟩ : ∃ K, (cel x m).k = K := ⟨_, rfl⟩; rw [hK] at r1 hd; clear hK
      go_wp2_with fail
      go_roundw
      case rel => exact ⟨k + 1, by omega, by go_num, hB2⟩
      case measure => simp [intOf]; omega
    case pos =>
      have HX := Lib.hid (show (Value.int .i64 (m : Nat)) = .int .i64 (lst key n : Nat) by rw [← hkn, HM.out]); have HY := Lib.hid (show (Value.int .i64 ((k + 1 : Nat) : Int)) = .int .i64 ((n + 1 : Nat) : Int) by rw [hkn])
      have ht := stp_t HN.out.2.1; rw [show (hom key + n) % 16 = m by rw [← hkn]; exact HM.out] at ht; clear hkn hk
      obtain ⟨f, hf⟩ : ∃ f, cel x m = f := ⟨_, rfl⟩; rw [hf] at r1 r3 ht; clear hf; obtain ⟨K, Q, U⟩ := f; simp only at r1 r3 ht
      cases U with
      | false =>
        clear ht
        go_wp2_with fail
        go_returns
        exact ⟨ret_t2 HX.out HY.out, hB2⟩
      | true =>
        obtain rfl : K = key := ht.resolve_left (by simp); clear ht; have hd : (K == K) = true := beq_self_eq_true K
        go_wp2_with fail
        go_returns
        exact ⟨ret_t2 HX.out HY.out, hB2⟩


end Go.Proofs.Ytalfnmlbidohcaa
