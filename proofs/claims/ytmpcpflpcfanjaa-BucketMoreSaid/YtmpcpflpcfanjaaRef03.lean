/-
  The reference of layer 3, walked: what is valid; full buckets; charging.
-/
import Derived.Test.YtmpcpflpcfanjaaRefDiv
namespace Go.Proofs.Ytmpcpflpcfanjaa
open Go.RowKit

/-- The error of a limit; of a bucket. -/
def limE (b r p : Int) : Int := if 1 ≤ b ∧ b ≤ 1000000000 ∧ 0 ≤ r ∧ r ≤ 1000000000 ∧ 1 ≤ p ∧ p ≤ 1000000000 then 0 else 8
def limV (b r p : Int) : Value := .agg #[.int .i64 b, .int .i64 r, .int .i64 p]
def bucV (b r p l q t : Int) : Value := .agg #[.int .i64 b, .int .i64 r, .int .i64 p, .int .i64 l, .int .i64 q, .int .u64 t]

set_option maxHeartbeats 800000 in
theorem rlimit_any (b r p : Int) (w : World) :
    Calls Try.prog 44 #[.agg #[.int .i64 b, .int .i64 r, .int .i64 p]] w fun e w' => e = .returned (.int .i64 (limE b r p)) ∧ Below w.heap.size w w' := by
  go_enter Try.func44, Try.ntmps44
  go_wp2
  all_goals go_returns
  all_goals refine ⟨?_, (Below.refl _ _).alloc (Nat.le_refl _) _⟩
  all_goals first
    | (rw [show limE b r p = 0 from if_pos (by omega)]; rfl)
    | (rw [show limE b r p = 8 from if_neg (by omega)]; rfl)

theorem box6 {w : World} {t : TypeId} (a b c d e f : Value) : Box (w.alloc (.cells #[a, b, c, d, e, f] t)) w.heap.size [a, b, c, d, e, f] := Box.new rfl
theorem rlimit_is {b r p n : Int} (h : Hid (limE b r p = n)) (w : World) :
    Calls Try.prog 44 #[.agg #[.int .i64 b, .int .i64 r, .int .i64 p]] w fun e w' => e = .returned (.int .i64 n) ∧ Below w.heap.size w w' := by
  rw [← h.out]
  exact rlimit_any b r p w
theorem limE_two (b r p : Int) : limE b r p = 0 ∨ limE b r p = 8 := by unfold limE; split <;> simp
/-- The error of a bucket. -/
def bucE (b r p l q : Int) : Int := if limE b r p = 0 ∧ 0 ≤ l ∧ l ≤ b ∧ 0 ≤ q ∧ q < p ∧ (l = b → q = 0) then 0 else 8
theorem bucE_yes {b r p l q : Int} (h : limE b r p = 0) (h1 : 0 ≤ l ∧ l ≤ b ∧ 0 ≤ q ∧ q < p ∧ (l = b → q = 0)) : bucE b r p l q = 0 := if_pos ⟨h, h1⟩
theorem bucE_no {b r p l q : Int} (h1 : l < 0 ∨ b < l ∨ q < 0 ∨ p ≤ q ∨ (l = b ∧ q ≠ 0)) : bucE b r p l q = 8 := if_neg (fun h => by omega)
theorem ret_i {k : IntKind} {a b : Int} (h : a = b) : Ending.returned (.int k a) = .returned (.int k b) := by rw [h]

set_option maxHeartbeats 1600000 in
theorem rcheck_any (b r p l q t : Int) (w : World) :
    Calls Try.prog 12 #[.agg #[.int .i64 b, .int .i64 r, .int .i64 p, .int .i64 l, .int .i64 q, .int .u64 t]] w fun e w' => e = .returned (.int .i64 (bucE b r p l q)) ∧ Below w.heap.size w w' := by
  rcases limE_two b r p with hl | hl
  · have HL := Lib.hid hl
    clear hl
    go_enter Try.func12, Try.ntmps12
    go_wp2_with fail
    refine (rlimit_is HL _).mono ?_
    rintro e w1 ⟨rfl, hb⟩
    have hB : Below w.heap.size w w1 := ((Below.refl _ _).alloc (Nat.le_refl _) _).trans (hb.mono (by simp))
    have hX := Box.below (box6 (w := w) (t := 26) (.int .i64 b) (.int .i64 r) (.int .i64 p) (.int .i64 l) (.int .i64 q) (.int .u64 t)) hb
    have c0 := hX.c 0 _ rfl
    have c1 := hX.c 1 _ rfl
    have c2 := hX.c 2 _ rfl
    have c3 := hX.c 3 _ rfl
    have c4 := hX.c 4 _ rfl
    have c5 := hX.c 5 _ rfl
    clear hX hb
    go_wp2_with fail
    all_goals go_returns
    all_goals refine ⟨?_, hB⟩
    all_goals first
      | exact ret_i (bucE_yes HL.out (by omega)).symm
      | exact ret_i (bucE_no (by omega)).symm
      | (rename_i hq; simp at hq; exact ret_i (bucE_yes HL.out (by omega)).symm)
      | (rename_i hq; simp at hq; exact ret_i (bucE_no (by omega)).symm)
  · have HL := Lib.hid hl
    have HE := Lib.hid (show bucE b r p l q = 8 from if_neg (fun h => by omega))
    clear hl
    go_enter Try.func12, Try.ntmps12
    go_wp2_with fail
    refine (rlimit_is HL _).mono ?_
    rintro e w1 ⟨rfl, hb⟩
    have hB : Below w.heap.size w w1 := ((Below.refl _ _).alloc (Nat.le_refl _) _).trans (hb.mono (by simp))
    clear hb
    go_wp2_with fail
    all_goals go_returns
    exact ⟨by rw [HE.out]; rfl, hB⟩
theorem rcheck_is {b r p l q t n : Int} (h : Hid (bucE b r p l q = n)) (w : World) :
    Calls Try.prog 12 #[.agg #[.int .i64 b, .int .i64 r, .int .i64 p, .int .i64 l, .int .i64 q, .int .u64 t]] w fun e w' => e = .returned (.int .i64 n) ∧ Below w.heap.size w w' := by
  rw [← h.out]
  exact rcheck_any b r p l q t w

end Go.Proofs.Ytmpcpflpcfanjaa
