/-
  The helpers of the statements of layer 2, walked: whether a tick is in a list, how often.
-/
import Derived.Test.YtdalbngfhinadaaRef02
namespace Go.Proofs.Ytdalbngfhinadaa
open Go.RowKit

def inB (xs : List Int) (t : Int) : Bool := decide (∃ i, i < xs.length ∧ nth xs i = t)
set_option maxHeartbeats 800000 in
theorem in_any (at0 : Option Addr) (cap : Nat) (xs : List Int) (t : Int) (w : World) (hi : Ints w .u64 at0 cap xs) :
    Calls Try.prog 26 #[.slice at0 xs.length cap, .int .u64 t] w fun e w' => e = .returned (.bool (inB xs t)) ∧ w' = w := by
  have hm := hi.most
  have hr := hi.room
  have HI := Lib.hid hi
  clear hi
  go_enter Try.func26, Try.ntmps26
  go_wp2
  go_loop [5] (fun i => ∃ k : Nat, k ≤ xs.length ∧ i = .int .i64 k ∧ Hid (∀ i, i < k → nth xs i ≠ t)) (fun i => xs.length - (intOf i).toNat)
  case atStart => exact ⟨0, Nat.zero_le _, rfl, Lib.hid (fun i h => by omega)⟩
  case round =>
    obtain ⟨k, hk, rfl, he⟩ := hrel
    by_cases hlt : k < xs.length
    · obtain ⟨b, off, rfl, hc⟩ := HI.out.at hlt
      by_cases h : nth xs k = t
      · have hd : (nth xs k == t) = true := by rw [h]; simp
        have HE := Lib.hid (show inB xs t = true from decide_eq_true ⟨k, hlt, h⟩)
        clear h
        go_wp2
        go_returns
        exact ⟨by rw [HE.out]; rfl, rfl⟩
      · have hd : (nth xs k == t) = false := beq_eq_false_iff_ne.2 h
        have HN := Lib.hid h
        clear h
        go_wp2
        go_round
        case rel => exact ⟨k + 1, by omega, by go_num, Lib.hid (fun i hi => by
          rcases Nat.lt_or_ge i k with q | q
          · exact he.out i q
          · obtain rfl : i = k := by omega
            exact HN.out)⟩
        case measure => simp [intOf]; omega
    · go_wp2
      go_returns
      refine ⟨?_, rfl⟩
      rw [show inB xs t = false from decide_eq_false (fun ⟨i, h1, h2⟩ => he.out i (by omega) h2)]
      rfl

/-- How often a tick is among the first k. -/
def cnt (xs : List Int) (t : Int) : Nat → Nat
  | 0 => 0
  | k + 1 => if nth xs k = t then cnt xs t k + 1 else cnt xs t k
theorem cnt_le (xs : List Int) (t : Int) (k : Nat) : cnt xs t k ≤ k := by
  induction k with
  | zero => exact Nat.le_refl _
  | succ k ih => unfold cnt; split <;> omega
set_option maxHeartbeats 800000 in
theorem times02_any (at0 : Option Addr) (cap : Nat) (xs : List Int) (t : Int) (w : World) (hi : Ints w .u64 at0 cap xs) :
    Calls Try.prog 27 #[.slice at0 xs.length cap, .int .u64 t] w fun e w' => e = .returned (.int .i64 (cnt xs t xs.length)) ∧ w' = w := by
  have hm := hi.most
  have hr := hi.room
  have HI := Lib.hid hi
  clear hi
  go_enter Try.func27, Try.ntmps27
  go_wp2
  go_loop [5, 6] (fun n i => ∃ k : Nat, k ≤ xs.length ∧ i = .int .i64 k ∧ n = .int .i64 (cnt xs t k)) (fun _ i => xs.length - (intOf i).toNat)
  case atStart => exact ⟨0, Nat.zero_le _, rfl, rfl⟩
  case round =>
    obtain ⟨k, hk, rfl, rfl⟩ := hrel
    by_cases hlt : k < xs.length
    · obtain ⟨b, off, rfl, hc⟩ := HI.out.at hlt
      have hcl := cnt_le xs t k
      by_cases h : nth xs k = t
      · have hd : (nth xs k == t) = true := by rw [h]; simp
        have HE := Lib.hid (show cnt xs t (k + 1) = cnt xs t k + 1 from if_pos h)
        clear h
        go_wp2
        go_round
        case rel => exact ⟨k + 1, by omega, by go_num, by rw [HE.out]; go_num⟩
        case measure => simp [intOf]; omega
      · have hd : (nth xs k == t) = false := beq_eq_false_iff_ne.2 h
        have HE := Lib.hid (show cnt xs t (k + 1) = cnt xs t k from if_neg h)
        clear h
        go_wp2
        go_round
        case rel => exact ⟨k + 1, by omega, by go_num, by rw [HE.out]⟩
        case measure => simp [intOf]; omega
    · obtain rfl : k = xs.length := by omega
      go_wp2
      go_returns
      exact ⟨rfl, rfl⟩

end Go.Proofs.Ytdalbngfhinadaa
