/-
  The reference of layer 2, walked: comparing lists, the greatest one, whether a list rises, differences and sums.
-/
import Derived.Test.YtmpcpflpcfanjaaProg
import Derived.Test.YtmpcpflpcfanjaaSlices
import Derived.Deep.QuietTactic
import Derived.BigQuiet
namespace Go.Proofs.Ytmpcpflpcfanjaa
open Go.RowKit

theorem u64_lt_len {n : Nat} (h : n ≤ 9223372036854775807) : (n : Int) ≤ 9223372036854775807 := by omega

/-- The greatest one of a tick and a list. -/
def gr (now : Int) (xs : List Int) : Int := xs.foldl (fun a x => if a < x then x else a) now
theorem gr_snoc (now : Int) (xs : List Int) (x : Int) : gr now (xs ++ [x]) = if gr now xs < x then x else gr now xs := by
  unfold gr
  rw [List.foldl_append]
  rfl

set_option maxHeartbeats 800000 in
theorem greatest_any (now : Int) (at0 : Option Addr) (cap : Nat) (xs : List Int) (w : World) (hi : Ints w .u64 at0 cap xs) :
    Calls Try.prog 41 #[.int .u64 now, .slice at0 xs.length cap] w fun e w' => e = .returned (.int .u64 (gr now xs)) ∧ w' = w := by
  have hm := hi.most
  have hr := hi.room
  have HI := Lib.hid hi
  clear hi
  go_enter Try.func41, Try.ntmps41
  go_wp2
  go_loop [0, 5] (fun a i => ∃ k : Nat, k ≤ xs.length ∧ i = .int .i64 k ∧ a = .int .u64 (gr now (xs.take k))) (fun _ i => xs.length - (intOf i).toNat)
  case atStart => exact ⟨0, Nat.zero_le _, rfl, rfl⟩
  case round =>
    obtain ⟨k, hk, rfl, rfl⟩ := hrel
    by_cases hlt : k < xs.length
    · obtain ⟨b, off, rfl, hc⟩ := HI.out.at hlt
      have hs := take_succ_nth hlt
      have hg := gr_snoc now (xs.take k) (nth xs k)
      rw [← hs] at hg
      by_cases h : gr now (xs.take k) < nth xs k
      · rw [if_pos h] at hg
        have HG := Lib.hid hg
        have hd : decide (nth xs k > gr now (xs.take k)) = true := decide_eq_true h
        clear hg hs h
        go_wp2
        go_round
        case rel => exact ⟨k + 1, by omega, by go_num, by rw [HG.out]⟩
        case measure => simp [intOf]; omega
      · rw [if_neg h] at hg
        have HG := Lib.hid hg
        have hd : decide (nth xs k > gr now (xs.take k)) = false := decide_eq_false h
        clear hg hs h
        go_wp2
        go_round
        case rel => exact ⟨k + 1, by omega, by go_num, by rw [HG.out]⟩
        case measure => simp [intOf]; omega
    · go_wp2
      go_returns
      exact ⟨by rw [List.take_of_length_le (by omega)]; rfl, rfl⟩

/-- Two lists compared. -/
def sameB (xs ys : List Int) : Bool := decide (xs = ys)

/-- No element is less than the one before it. -/
def risB (xs : List Int) : Bool := decide (∀ i, i < xs.length → i + 1 < xs.length → nth xs i ≤ nth xs (i + 1))
def sinceV (x y : Int) : Int := if y < x then 0 else y - x
def sinceE (x y : Int) : Int := if y < x then 32 else 0
def afterV (t n : Int) : Int := if 18446744073709551615 - t < n then 0 else t + n
def afterE (t n : Int) : Int := if 18446744073709551615 - t < n then 16 else 0
def longB (n : Nat) : Bool := decide (40 < n ∧ n ≤ 200 ∨ 300 < n)
end Go.Proofs.Ytmpcpflpcfanjaa
