/-
  Comparing without an early end: place, Compare, Same.
-/
import Derived.Test.YtfobjdkpdeiidaaDoorShaK
namespace Go.Proofs.YtfobjdkpdeiidaaDoor
open Go.RowKit

def plA (xs : List Int) (i : Nat) : Int := if i < xs.length then 1 else 0
def plB (xs : List Int) (i : Nat) : Int := if i < xs.length then nth xs i else 0
def cmpK (xs ys : List Int) (k : Nat) : Bool := decide (∀ i, i < k → plA xs i = plA ys i ∧ plB xs i = plB ys i)
theorem cmpK_zero (xs ys : List Int) : cmpK xs ys 0 = true := decide_eq_true (fun i h => by omega)
theorem cmpK_succ (xs ys : List Int) (k : Nat) : cmpK xs ys (k + 1) = (decide ([plA xs k, plB xs k] = [plA ys k, plB ys k]) && cmpK xs ys k) := by
  unfold cmpK
  rw [← Bool.decide_and]
  congr 1
  simp only [List.cons.injEq, and_true, eq_iff_iff]
  constructor
  · intro h
    exact ⟨h k (by omega), fun i hi => h i (by omega)⟩
  · intro ⟨h1, h2⟩ i hi
    rcases Nat.lt_or_ge i k with q | q
    · exact h2 i q
    · obtain rfl : i = k := by omega
      exact h1
theorem cmpK_all (xs ys : List Int) : cmpK xs ys (max xs.length ys.length) = sameB xs ys := by
  unfold cmpK sameB
  congr 1
  simp only [eq_iff_iff]
  constructor
  · intro h
    have hl : xs.length = ys.length := by
      rcases Nat.lt_trichotomy xs.length ys.length with q | q | q
      · have := (h xs.length (by omega)).1
        unfold plA at this
        rw [if_neg (by omega), if_pos q] at this
        omega
      · exact q
      · have := (h ys.length (by omega)).1
        unfold plA at this
        rw [if_pos q, if_neg (by omega)] at this
        omega
    refine List.ext_getElem hl fun i h1 h2 => ?_
    have := (h i (by omega)).2
    unfold plB nth at this
    rw [if_pos h1, if_pos h2, List.getD_eq_getElem?_getD, List.getD_eq_getElem?_getD, List.getElem?_eq_getElem h1, List.getElem?_eq_getElem h2] at this
    simpa using this
  · intro h i _
    rw [h]
    exact ⟨rfl, rfl⟩

theorem size_two : (Tryd.prog.info? 53).map (·.size) = some 2 := by kernel_rfl
set_option maxRecDepth 100000 in
set_option maxHeartbeats 1600000 in
theorem place_is {v : Value} {xs : List Int} (i : Nat) (w : World) (hi : IsL w .u8 v xs) (him : i ≤ 9223372036854775807) :
    Calls Tryd.prog 26 #[v, .int .i64 (i : Int)] w fun e w' => e = .returned (.agg #[.int .u8 (plA xs i), .int .u8 (plB xs i)]) ∧ Below w.heap.size w w' := by
  obtain ⟨a0, c0, rfl, hin, h0⟩ := id hi
  have m1 := hin.room
  have m2 := hin.most
  clear hin h0
  have k0 : (0 : Int) ≤ (i : Int) := by omega
  by_cases h : i < xs.length
  · obtain ⟨b, off, rfl, hc⟩ := hi.get i h
    have hlt : (i : Int) < (xs.length : Int) := by omega
    have hd : decide ((i : Int) < (xs.length : Int)) = true := decide_eq_true hlt
    obtain ⟨A, hA⟩ : ∃ A, plA xs i = A := ⟨_, rfl⟩
    obtain rfl : A = 1 := by rw [← hA]; unfold plA; rw [if_pos h]
    have hB : plB xs i = nth xs i := by unfold plB; rw [if_pos h]
    rw [hA, hB]
    have hc2 := cell_alloc (x := .cells #[.int .u8 0, .int .u8 0] 53) hc
    clear hi hA hB
    go_enter Tryd.func26, Tryd.ntmps26
    go_wp2_with fail
    refine bodyPost_ret (v := .agg #[.int .u8 1, .int .u8 (nth xs i)]) (by simp [results, Tryd.results26, go_sem]) rfl ⟨rfl, ?_⟩
    go_grown
  · have hlt : ¬ (i : Int) < (xs.length : Int) := by omega
    have hd : decide ((i : Int) < (xs.length : Int)) = false := decide_eq_false hlt
    have hA : plA xs i = 0 := by unfold plA; rw [if_neg h]
    have hB : plB xs i = 0 := by unfold plB; rw [if_neg h]
    rw [hA, hB]
    clear hi hA hB
    go_enter Tryd.func26, Tryd.ntmps26
    go_wp2_with fail
    refine bodyPost_ret (v := .agg #[.int .u8 0, .int .u8 0]) (by simp [results, Tryd.results26, go_sem]) rfl ⟨rfl, ?_⟩
    go_grown

theorem nth_at {xs : List Int} {k : IntKind} (i : Nat) (h : i < xs.length) : (xs.map (Value.int k))[i]? = some (.int k (nth xs i)) := by
  unfold nth
  rw [List.getElem?_map, List.getElem?_eq_getElem h, List.getD_eq_getElem?_getD, List.getElem?_eq_getElem h]
  rfl
theorem IsL.box {w : World} {b : Nat} {k : IntKind} {xs : List Int} (n : Nat) (hn : xs.length = n) (h : Box w b (xs.map (Value.int k))) (hl : n ≤ 1000000) : IsL w k (.slice (some ⟨b, 0, Option.none⟩) n n) xs := by
  subst hn
  refine ⟨some ⟨b, 0, Option.none⟩, xs.length, rfl, ⟨Nat.le_refl _, by omega, fun _ => ⟨b, 0, rfl, fun i hi => ?_⟩⟩, fun h => by cases h⟩
  rw [Nat.zero_add]
  exact h.c i _ (nth_at i hi)

end Go.Proofs.YtfobjdkpdeiidaaDoor
