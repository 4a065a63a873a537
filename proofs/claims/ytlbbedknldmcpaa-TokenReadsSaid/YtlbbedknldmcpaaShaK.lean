/-
  The comparisons of the reference: bytes, hashes.
-/
import Derived.Test.YtlbbedknldmcpaaArrEq
import Derived.Test.YtlbbedknldmcpaaArrEq
import Derived.Deep.QuietTactic
import Derived.BigQuiet
namespace Go.Proofs.Ytlbbedknldmcpaa
open Go.RowKit

/-- Two lists compared. -/
def sameB (xs ys : List Int) : Bool := decide (xs = ys)

set_option maxHeartbeats 800000 in
theorem sameb_any (a1 a2 : Option Addr) (c1 c2 : Nat) (xs ys : List Int) (w : World) (h1 : Ints w .u8 a1 c1 xs) (h2 : Ints w .u8 a2 c2 ys) :
    Calls Try.prog 6 #[.slice a1 xs.length c1, .slice a2 ys.length c2] w fun e w' => e = .returned (.bool (sameB xs ys)) ∧ ∃ n, w' = w.drewN n := by
  have m1 := h1.most
  have r1 := h1.room
  have m2 := h2.most
  have r2 := h2.room
  have H1 := Lib.hid h1
  have H2 := Lib.hid h2
  clear h1 h2
  by_cases hl : xs.length = ys.length
  · have hd : ((xs.length : Int) != (ys.length : Int)) = false := by rw [hl]; simp
    have HL := Lib.hid hl
    clear hl
    go_enter Try.func6, Try.ntmps6
    go_wp2
    go_loopw [5] (fun i wr => ∃ k n : Nat, k ≤ xs.length ∧ i = .int .i64 k ∧ wr = w.drewN n ∧ Hid (xs.take k = ys.take k)) (fun i _ => xs.length - (intOf i).toNat)
    case atStart => exact ⟨0, 0, Nat.zero_le _, rfl, rfl, rfl⟩
    case round =>
      obtain ⟨k, n, hk, rfl, rfl, he⟩ := hrel
      by_cases hlt : k < xs.length
      · have hlt2 : k < ys.length := by rw [← HL.out]; exact hlt
        obtain ⟨b, off, rfl, hc⟩ := H1.out.at hlt
        obtain ⟨b', off', rfl, hc'⟩ := H2.out.at hlt2
        have S1 := Lib.hid (take_succ_nth hlt)
        have i0 : (0 : Int) ≤ (k : Int) := by omega
        have i1 : (k : Int) < (xs.length : Int) := by omega
        have i2 : (k : Int) < (ys.length : Int) := by omega
        have S2 := Lib.hid (take_succ_nth hlt2)
        by_cases h : nth xs k = nth ys k
        · have hd2 : (nth xs k != nth ys k) = false := by rw [h]; simp
          have HE := Lib.hid h
          clear h
          go_wp2
          go_quiet (fail)
          go_wp2
          go_roundw
          case rel => exact ⟨k + 1, _, by omega, by go_num, rfl, Lib.hid (by rw [S1.out, S2.out, he.out, HE.out])⟩
          case measure => simp [intOf]; omega
        · have hd2 : (nth xs k != nth ys k) = true := by simpa using h
          have HE := Lib.hid (show sameB xs ys = false from decide_eq_false (fun q => h (by rw [q])))
          clear h
          go_wp2
          go_quiet (fail)
          go_wp2
          go_returns
          exact ⟨by rw [HE.out]; rfl, _, World.drewN_drewN _ _ _⟩
      · go_wp2
        go_returns
        refine ⟨?_, _, rfl⟩
        have e := he.out
        rw [List.take_of_length_le (by omega), List.take_of_length_le (by have := HL.out; omega)] at e
        rw [show sameB xs ys = true from decide_eq_true e]
        rfl
  · have hd : ((xs.length : Int) != (ys.length : Int)) = true := by rw [bne_iff_ne]; omega
    have HE := Lib.hid (show sameB xs ys = false from decide_eq_false (fun q => hl (by rw [q])))
    clear hl
    go_enter Try.func6, Try.ntmps6
    go_wp2
    go_returns
    exact ⟨by rw [HE.out]; rfl, 0, rfl⟩


theorem sameb_tt {v1 v2 : Value} {xs : List Int} (w : World) (h1 : IsL w .u8 v1 xs) (h2 : IsL w .u8 v2 xs) : Calls Try.prog 6 #[v1, v2] w fun e w' => e = .returned (.bool true) ∧ Below w.heap.size w w' := by
  obtain ⟨a1, c1, rfl, i1, _⟩ := h1
  obtain ⟨a2, c2, rfl, i2, _⟩ := h2
  refine (sameb_any a1 a2 c1 c2 xs xs w i1 i2).mono fun e w' ⟨he, n, hw⟩ => ⟨by rw [he, show sameB xs xs = true from decide_eq_true rfl], ?_⟩
  rw [hw]; exact below_drewN (Below.refl _ _) n
theorem size_u32 : (Try.prog.info? 22).map (·.size) = some 1 := by kernel_rfl
theorem size_u8 : (Try.prog.info? 5).map (·.size) = some 1 := by kernel_rfl
end Go.Proofs.Ytlbbedknldmcpaa
