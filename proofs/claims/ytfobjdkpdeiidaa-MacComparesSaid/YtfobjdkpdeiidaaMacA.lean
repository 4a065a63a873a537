/-
  Comparing without an early end: place, Compare, Same.
-/
import Derived.Test.YtfobjdkpdeiidaaShaK
namespace Go.Proofs.Ytfobjdkpdeiidaa
open Go.RowKit

def plA (xs : List Int) (i : Nat) : Int := if i < xs.length then 1 else 0
def plB (xs : List Int) (i : Nat) : Int := if i < xs.length then nth xs i else 0
def cmpK (xs ys : List Int) (k : Nat) : Bool := decide (∀ i, i < k → plA xs i = plA ys i ∧ plB xs i = plB ys i)
theorem cmpK_zero (xs ys : List Int) : cmpK xs ys 0 = true := decide_eq_true (fun i h => by omega)
theorem cmpK_succ (xs ys : List Int) (k : Nat) : cmpK xs ys (k + 1) = (decide ([plA xs k, plB xs k] = [plA ys k, plB ys k]) && cmpK xs ys k) := by
  unfold cmpK
  rw [← Bool.decide_and]
  congr 1
  simp only [List.cons.injEq, and_true, eq_iff_iff]
  constructor
  · intro h
    exact ⟨h k (by omega), fun i hi => h i (by omega)⟩
  · intro ⟨h1, h2⟩ i hi
    rcases Nat.lt_or_ge i k with q | q
    · exact h2 i q
    · obtain rfl : i = k := by omega
      exact h1
theorem cmpK_all (xs ys : List Int) : cmpK xs ys (max xs.length ys.length) = sameB xs ys := by
  unfold cmpK sameB
  congr 1
  simp only [eq_iff_iff]
  constructor
  · intro h
    have hl : xs.length = ys.length := by
      rcases Nat.lt_trichotomy xs.length ys.length with q | q | q
      · have := (h xs.length (by omega)).1
        unfold plA at this
        rw [if_neg (by omega), if_pos q] at this
        omega
      · exact q
      · have := (h ys.length (by omega)).1
        unfold plA at this
        rw [if_pos q, if_neg (by omega)] at this
        omega
    refine List.ext_getElem hl fun i h1 h2 => ?_
    have := (h i (by omega)).2
    unfold plB nth at this
    rw [if_pos h1, if_pos h2, List.getD_eq_getElem?_getD, List.getD_eq_getElem?_getD, List.getElem?_eq_getElem h1, List.getElem?_eq_getElem h2] at this
    simpa using this
  · intro h i _
    rw [h]
    exact ⟨rfl, rfl⟩

theorem size_two : (Try.prog.info? 29).map (·.size) = some 2 := by kernel_rfl
set_option maxRecDepth 100000 in
set_option maxHeartbeats 1600000 in
theorem place_is {v : Value} {xs : List Int} (i : Nat) (w : World) (hi : IsL w .u8 v xs) (him : i ≤ 9223372036854775807) :
    Calls Try.prog 7 #[v, .int .i64 (i : Int)] w fun e w' => e = .returned (.agg #[.int .u8 (plA xs i), .int .u8 (plB xs i)]) ∧ Below w.heap.size w w' := by
  obtain ⟨a0, c0, rfl, hin, h0⟩ := id hi
  have m1 := hin.room
  have m2 := hin.most
  clear hin h0
  have k0 : (0 : Int) ≤ (i : Int) := by omega
  by_cases h : i < xs.length
  · obtain ⟨b, off, rfl, hc⟩ := hi.get i h
    have hlt : (i : Int) < (xs.length : Int) := by omega
    have hd : decide ((i : Int) < (xs.length : Int)) = true := decide_eq_true hlt
    obtain ⟨A, hA⟩ : ∃ A, plA xs i = A := ⟨_, rfl⟩
    obtain rfl : A = 1 := by rw [← hA]; unfold plA; rw [if_pos h]
    have hB : plB xs i = nth xs i := by unfold plB; rw [if_pos h]
    rw [hA, hB]
    have hc2 := cell_alloc (x := .cells #[.int .u8 0, .int .u8 0] 29) hc
    clear hi hA hB
    go_enter Try.func7, Try.ntmps7
    go_wp2_with fail
    refine bodyPost_ret (v := .agg #[.int .u8 1, .int .u8 (nth xs i)]) (by simp [results, Try.results7, go_sem]) rfl ⟨rfl, ?_⟩
    go_grown
  · have hlt : ¬ (i : Int) < (xs.length : Int) := by omega
    have hd : decide ((i : Int) < (xs.length : Int)) = false := decide_eq_false hlt
    have hA : plA xs i = 0 := by unfold plA; rw [if_neg h]
    have hB : plB xs i = 0 := by unfold plB; rw [if_neg h]
    rw [hA, hB]
    clear hi hA hB
    go_enter Try.func7, Try.ntmps7
    go_wp2_with fail
    refine bodyPost_ret (v := .agg #[.int .u8 0, .int .u8 0]) (by simp [results, Try.results7, go_sem]) rfl ⟨rfl, ?_⟩
    go_grown

set_option maxRecDepth 100000 in
set_option maxHeartbeats 1600000 in
theorem compare_is {v1 v2 : Value} {xs ys : List Int} (w : World) (h1 : Hid (IsL w .u8 v1 xs)) (h2 : Hid (IsL w .u8 v2 ys)) :
    Calls Try.prog 4 #[v1, v2] w fun e w' => e = .returned (.tuple #[.bool (sameB xs ys), .int .i64 ((max xs.length ys.length : Nat) : Int)]) ∧ Below w.heap.size w w' := by
  obtain ⟨a1, c1, rfl, hin1, _⟩ := id h1.out
  obtain ⟨a2, c2, rfl, hin2, _⟩ := id h2.out
  have r1 := hin1.room
  have m1 := hin1.most
  have r2 := hin2.room
  have m2 := hin2.most
  clear hin1 hin2
  obtain ⟨M, hM⟩ : ∃ M, max xs.length ys.length = M := ⟨_, rfl⟩
  have hmax : max (xs.length : Int) (ys.length : Int) = (M : Int) := by omega
  have hMm : M ≤ 9223372036854775807 := by omega
  have HS := Lib.hid (show cmpK xs ys M = sameB xs ys by rw [← hM]; exact cmpK_all xs ys)
  rw [hM]
  go_enter Try.func4, Try.ntmps4
  go_wp2_with fail
  · obtain rfl : M = ys.length := by omega
    clear h hmax hM
    go_loopw [6, 7, 14] (fun s l i wr => ∃ k : Nat, k ≤ ys.length ∧ s = .bool (cmpK xs ys k) ∧ l = .int .i64 k ∧ i = .int .i64 k ∧ Below w.heap.size w wr) (fun _ _ i _ => ys.length - (intOf i).toNat)
    case atStart => exact ⟨0, by omega, by rw [cmpK_zero], rfl, rfl, Below.refl _ _⟩
    case round =>
      obtain ⟨k, hk, rfl, rfl, rfl, hB⟩ := hrel
      by_cases hlt : k < ys.length
      · have hlti : (k : Int) < (ys.length : Int) := by omega
        go_wp2_with fail
        refine (place_is k _ (h1.out.below hB) (by omega)).mono ?_
        rintro e w1 ⟨rfl, hb⟩
        have hB1 := below_thru hB hb
        clear hb
        go_wp2_with fail
        refine (place_is k _ (h2.out.below hB1) (by omega)).mono ?_
        rintro e w2 ⟨rfl, hb⟩
        have hB2 := below_thru hB1 hb
        have hE : ∀ W : World, (Op.equalIn 10000 29 (.agg #[.int .u8 (plA xs k), .int .u8 (plB xs k)]) (.agg #[.int .u8 (plA ys k), .int .u8 (plB ys k)])).run Try.prog W = .ok (decide ([plA xs k, plB xs k] = [plA ys k, plB ys k])) W := fun W =>
          eq_ints W 9998 Try.underlying29 Try.underlying5 (by kernel_rfl) [plA xs k, plB xs k] [plA ys k, plB ys k] rfl rfl
        have hsu := Lib.hid (cmpK_succ xs ys k)
        obtain ⟨q, hq⟩ : ∃ q, decide ([plA xs k, plB xs k] = [plA ys k, plB ys k]) = q := ⟨_, rfl⟩
        rw [hq] at hE hsu
        obtain ⟨c, hc⟩ : ∃ c, cmpK xs ys k = c := ⟨_, rfl⟩
        rw [hc] at hsu ⊢
        generalize plA xs k = p1 at hE ⊢
        generalize plB xs k = p2 at hE ⊢
        generalize plA ys k = p3 at hE ⊢
        generalize plB ys k = p4 at hE ⊢
        clear hq hc hb hB1 hB
        cases q
        · go_wp2_with fail
          go_roundw
          case rel => exact ⟨k + 1, by omega, by rw [hsu.out]; rfl, by go_num, by go_num, hB2⟩
          case measure => simp [intOf]; omega
        · go_wp2_with fail
          go_roundw
          case rel => exact ⟨k + 1, by omega, by rw [hsu.out]; rfl, by go_num, by go_num, hB2⟩
          case measure => simp [intOf]; omega
      · obtain rfl : k = ys.length := by omega
        rw [HS.out]
        go_wp2_with fail
        go_returns
        exact ⟨rfl, hB⟩
  · obtain rfl : M = xs.length := by omega
    clear h hmax hM
    go_loopw [6, 7, 14] (fun s l i wr => ∃ k : Nat, k ≤ xs.length ∧ s = .bool (cmpK xs ys k) ∧ l = .int .i64 k ∧ i = .int .i64 k ∧ Below w.heap.size w wr) (fun _ _ i _ => xs.length - (intOf i).toNat)
    case atStart => exact ⟨0, by omega, by rw [cmpK_zero], rfl, rfl, Below.refl _ _⟩
    case round =>
      obtain ⟨k, hk, rfl, rfl, rfl, hB⟩ := hrel
      by_cases hlt : k < xs.length
      · have hlti : (k : Int) < (xs.length : Int) := by omega
        go_wp2_with fail
        refine (place_is k _ (h1.out.below hB) (by omega)).mono ?_
        rintro e w1 ⟨rfl, hb⟩
        have hB1 := below_thru hB hb
        clear hb
        go_wp2_with fail
        refine (place_is k _ (h2.out.below hB1) (by omega)).mono ?_
        rintro e w2 ⟨rfl, hb⟩
        have hB2 := below_thru hB1 hb
        have hE : ∀ W : World, (Op.equalIn 10000 29 (.agg #[.int .u8 (plA xs k), .int .u8 (plB xs k)]) (.agg #[.int .u8 (plA ys k), .int .u8 (plB ys k)])).run Try.prog W = .ok (decide ([plA xs k, plB xs k] = [plA ys k, plB ys k])) W := fun W =>
          eq_ints W 9998 Try.underlying29 Try.underlying5 (by kernel_rfl) [plA xs k, plB xs k] [plA ys k, plB ys k] rfl rfl
        have hsu := Lib.hid (cmpK_succ xs ys k)
        obtain ⟨q, hq⟩ : ∃ q, decide ([plA xs k, plB xs k] = [plA ys k, plB ys k]) = q := ⟨_, rfl⟩
        rw [hq] at hE hsu
        obtain ⟨c, hc⟩ : ∃ c, cmpK xs ys k = c := ⟨_, rfl⟩
        rw [hc] at hsu ⊢
        generalize plA xs k = p1 at hE ⊢
        generalize plB xs k = p2 at hE ⊢
        generalize plA ys k = p3 at hE ⊢
        generalize plB ys k = p4 at hE ⊢
        clear hq hc hb hB1 hB
        cases q
        · go_wp2_with fail
          go_roundw
          case rel => exact ⟨k + 1, by omega, by rw [hsu.out]; rfl, by go_num, by go_num, hB2⟩
          case measure => simp [intOf]; omega
        · go_wp2_with fail
          go_roundw
          case rel => exact ⟨k + 1, by omega, by rw [hsu.out]; rfl, by go_num, by go_num, hB2⟩
          case measure => simp [intOf]; omega
      · obtain rfl : k = xs.length := by omega
        rw [HS.out]
        go_wp2_with fail
        go_returns
        exact ⟨rfl, hB⟩

theorem nth_at {xs : List Int} {k : IntKind} (i : Nat) (h : i < xs.length) : (xs.map (Value.int k))[i]? = some (.int k (nth xs i)) := by
  unfold nth
  rw [List.getElem?_map, List.getElem?_eq_getElem h, List.getD_eq_getElem?_getD, List.getElem?_eq_getElem h]
  rfl
theorem IsL.box {w : World} {b : Nat} {k : IntKind} {xs : List Int} (n : Nat) (hn : xs.length = n) (h : Box w b (xs.map (Value.int k))) (hl : n ≤ 1000000) : IsL w k (.slice (some ⟨b, 0, Option.none⟩) n n) xs := by
  subst hn
  refine ⟨some ⟨b, 0, Option.none⟩, xs.length, rfl, ⟨Nat.le_refl _, by omega, fun _ => ⟨b, 0, rfl, fun i hi => ?_⟩⟩, fun h => by cases h⟩
  rw [Nat.zero_add]
  exact h.c i _ (nth_at i hi)

set_option maxRecDepth 100000 in
set_option maxHeartbeats 1600000 in
theorem mac_same {D1 D2 : List Int} (w : World) (l1 : D1.length = 32) (l2 : D2.length = 32) :
    Calls Try.prog 6 #[.agg (D1.map (Value.int .u8)).toArray, .agg (D2.map (Value.int .u8)).toArray] w fun e w' => e = .returned (.bool (sameB D1 D2)) ∧ Below w.heap.size w w' := by
  go_enter Try.func6, Try.ntmps6
  go_upto_region 1 with fail

  have hx1 : Box ((w.alloc (.cells (D1.map (Value.int .u8)).toArray 24)).alloc (.cells (D2.map (Value.int .u8)).toArray 24)) w.heap.size (D1.map (Value.int .u8)) := Box.alloc (Box.newc rfl rfl) _
  have hx2 : Box ((w.alloc (.cells (D1.map (Value.int .u8)).toArray 24)).alloc (.cells (D2.map (Value.int .u8)).toArray 24)) (w.heap.size + 1) (D2.map (Value.int .u8)) := Box.newc rfl (by simp)
  have J1 := Lib.hid (IsL.box 32 l1 hx1 (by omega))
  have J2 := Lib.hid (IsL.box 32 l2 hx2 (by omega))
  have L1 := Lib.hid l1
  have L2 := Lib.hid l2
  have hB : Below w.heap.size w ((w.alloc (.cells (D1.map (Value.int .u8)).toArray 24)).alloc (.cells (D2.map (Value.int .u8)).toArray 24)) := by go_grown
  clear hx1 hx2 l1 l2
  go_region_held3 (fun _ => True) (trivial) (first | (go_at_call 4; refine (compare_is _ (Lib.hid (IsL.drew J1.out)) (Lib.hid (IsL.drew J2.out))).mono ?_; rintro e w1 ⟨rfl, hb⟩; have hB1 : Below w.heap.size w w1 := below_thru (by go_grown) hb; clear hb))
  all_goals

    go_wp2_with fail
    go_returns
    exact ⟨rfl, hB1⟩

end Go.Proofs.Ytfobjdkpdeiidaa
