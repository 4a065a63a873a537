/-
  The reference of layer 2, walked: comparing lists, the greatest one, whether a list rises, differences and sums.
-/
import Derived.Test.YtdalbngfhinadaaProg
import Derived.Test.YtdalbngfhinadaaSlices
import Derived.Deep.QuietTactic
import Derived.BigQuiet
namespace Go.Proofs.Ytdalbngfhinadaa
open Go.RowKit

theorem u64_lt_len {n : Nat} (h : n ≤ 9223372036854775807) : (n : Int) ≤ 9223372036854775807 := by omega

/-- The greatest one of a tick and a list. -/
def gr (now : Int) (xs : List Int) : Int := xs.foldl (fun a x => if a < x then x else a) now
theorem gr_snoc (now : Int) (xs : List Int) (x : Int) : gr now (xs ++ [x]) = if gr now xs < x then x else gr now xs := by
  unfold gr
  rw [List.foldl_append]
  rfl

set_option maxHeartbeats 800000 in
theorem greatest_any (now : Int) (at0 : Option Addr) (cap : Nat) (xs : List Int) (w : World) (hi : Ints w .u64 at0 cap xs) :
    Calls Try.prog 19 #[.int .u64 now, .slice at0 xs.length cap] w fun e w' => e = .returned (.int .u64 (gr now xs)) ∧ w' = w := by
  have hm := hi.most
  have hr := hi.room
  have HI := Lib.hid hi
  clear hi
  go_enter Try.func19, Try.ntmps19
  go_wp2
  go_loop [0, 5] (fun a i => ∃ k : Nat, k ≤ xs.length ∧ i = .int .i64 k ∧ a = .int .u64 (gr now (xs.take k))) (fun _ i => xs.length - (intOf i).toNat)
  case atStart => exact ⟨0, Nat.zero_le _, rfl, rfl⟩
  case round =>
    obtain ⟨k, hk, rfl, rfl⟩ := hrel
    by_cases hlt : k < xs.length
    · obtain ⟨b, off, rfl, hc⟩ := HI.out.at hlt
      have hs := take_succ_nth hlt
      have hg := gr_snoc now (xs.take k) (nth xs k)
      rw [← hs] at hg
      by_cases h : gr now (xs.take k) < nth xs k
      · rw [if_pos h] at hg
        have HG := Lib.hid hg
        have hd : decide (nth xs k > gr now (xs.take k)) = true := decide_eq_true h
        clear hg hs h
        go_wp2
        go_round
        case rel => exact ⟨k + 1, by omega, by go_num, by rw [HG.out]⟩
        case measure => simp [intOf]; omega
      · rw [if_neg h] at hg
        have HG := Lib.hid hg
        have hd : decide (nth xs k > gr now (xs.take k)) = false := decide_eq_false h
        clear hg hs h
        go_wp2
        go_round
        case rel => exact ⟨k + 1, by omega, by go_num, by rw [HG.out]⟩
        case measure => simp [intOf]; omega
    · go_wp2
      go_returns
      exact ⟨by rw [List.take_of_length_le (by omega)]; rfl, rfl⟩

/-- Two lists compared. -/
def sameB (xs ys : List Int) : Bool := decide (xs = ys)

set_option maxHeartbeats 800000 in
theorem same_any (a1 a2 : Option Addr) (c1 c2 : Nat) (xs ys : List Int) (w : World) (h1 : Ints w .u64 a1 c1 xs) (h2 : Ints w .u64 a2 c2 ys) :
    Calls Try.prog 20 #[.slice a1 xs.length c1, .slice a2 ys.length c2] w fun e w' => e = .returned (.bool (sameB xs ys)) ∧ ∃ n, w' = w.drewN n := by
  have m1 := h1.most
  have r1 := h1.room
  have m2 := h2.most
  have r2 := h2.room
  have H1 := Lib.hid h1
  have H2 := Lib.hid h2
  clear h1 h2
  by_cases hl : xs.length = ys.length
  · have hd : ((xs.length : Int) != (ys.length : Int)) = false := by rw [hl]; simp
    have HL := Lib.hid hl
    clear hl
    go_enter Try.func20, Try.ntmps20
    go_wp2
    go_loopw [5] (fun i wr => ∃ k n : Nat, k ≤ xs.length ∧ i = .int .i64 k ∧ wr = w.drewN n ∧ Hid (xs.take k = ys.take k)) (fun i _ => xs.length - (intOf i).toNat)
    case atStart => exact ⟨0, 0, Nat.zero_le _, rfl, rfl, rfl⟩
    case round =>
      obtain ⟨k, n, hk, rfl, rfl, he⟩ := hrel
      by_cases hlt : k < xs.length
      · have hlt2 : k < ys.length := by rw [← HL.out]; exact hlt
        obtain ⟨b, off, rfl, hc⟩ := H1.out.at hlt
        obtain ⟨b', off', rfl, hc'⟩ := H2.out.at hlt2
        have S1 := Lib.hid (take_succ_nth hlt)
        have i0 : (0 : Int) ≤ (k : Int) := by omega
        have i1 : (k : Int) < (xs.length : Int) := by omega
        have i2 : (k : Int) < (ys.length : Int) := by omega
        have S2 := Lib.hid (take_succ_nth hlt2)
        by_cases h : nth xs k = nth ys k
        · have hd2 : (nth xs k != nth ys k) = false := by rw [h]; simp
          have HE := Lib.hid h
          clear h
          go_wp2
          go_quiet (fail)
          go_wp2
          go_roundw
          case rel => exact ⟨k + 1, _, by omega, by go_num, rfl, Lib.hid (by rw [S1.out, S2.out, he.out, HE.out])⟩
          case measure => simp [intOf]; omega
        · have hd2 : (nth xs k != nth ys k) = true := by simpa using h
          have HE := Lib.hid (show sameB xs ys = false from decide_eq_false (fun q => h (by rw [q])))
          clear h
          go_wp2
          go_quiet (fail)
          go_wp2
          go_returns
          exact ⟨by rw [HE.out]; rfl, _, World.drewN_drewN _ _ _⟩
      · go_wp2
        go_returns
        refine ⟨?_, _, rfl⟩
        have e := he.out
        rw [List.take_of_length_le (by omega), List.take_of_length_le (by have := HL.out; omega)] at e
        rw [show sameB xs ys = true from decide_eq_true e]
        rfl
  · have hd : ((xs.length : Int) != (ys.length : Int)) = true := by rw [bne_iff_ne]; omega
    have HE := Lib.hid (show sameB xs ys = false from decide_eq_false (fun q => hl (by rw [q])))
    clear hl
    go_enter Try.func20, Try.ntmps20
    go_wp2
    go_returns
    exact ⟨by rw [HE.out]; rfl, 0, rfl⟩

set_option maxHeartbeats 800000 in
theorem same_ints_any (a1 a2 : Option Addr) (c1 c2 : Nat) (xs ys : List Int) (w : World) (h1 : Ints w .i64 a1 c1 xs) (h2 : Ints w .i64 a2 c2 ys) :
    Calls Try.prog 21 #[.slice a1 xs.length c1, .slice a2 ys.length c2] w fun e w' => e = .returned (.bool (sameB xs ys)) ∧ ∃ n, w' = w.drewN n := by
  have m1 := h1.most
  have r1 := h1.room
  have m2 := h2.most
  have r2 := h2.room
  have H1 := Lib.hid h1
  have H2 := Lib.hid h2
  clear h1 h2
  by_cases hl : xs.length = ys.length
  · have hd : ((xs.length : Int) != (ys.length : Int)) = false := by rw [hl]; simp
    have HL := Lib.hid hl
    clear hl
    go_enter Try.func21, Try.ntmps21
    go_wp2
    go_loopw [5] (fun i wr => ∃ k n : Nat, k ≤ xs.length ∧ i = .int .i64 k ∧ wr = w.drewN n ∧ Hid (xs.take k = ys.take k)) (fun i _ => xs.length - (intOf i).toNat)
    case atStart => exact ⟨0, 0, Nat.zero_le _, rfl, rfl, rfl⟩
    case round =>
      obtain ⟨k, n, hk, rfl, rfl, he⟩ := hrel
      by_cases hlt : k < xs.length
      · have hlt2 : k < ys.length := by rw [← HL.out]; exact hlt
        obtain ⟨b, off, rfl, hc⟩ := H1.out.at hlt
        obtain ⟨b', off', rfl, hc'⟩ := H2.out.at hlt2
        have S1 := Lib.hid (take_succ_nth hlt)
        have i0 : (0 : Int) ≤ (k : Int) := by omega
        have i1 : (k : Int) < (xs.length : Int) := by omega
        have i2 : (k : Int) < (ys.length : Int) := by omega
        have S2 := Lib.hid (take_succ_nth hlt2)
        by_cases h : nth xs k = nth ys k
        · have hd2 : (nth xs k != nth ys k) = false := by rw [h]; simp
          have HE := Lib.hid h
          clear h
          go_wp2
          go_quiet (fail)
          go_wp2
          go_roundw
          case rel => exact ⟨k + 1, _, by omega, by go_num, rfl, Lib.hid (by rw [S1.out, S2.out, he.out, HE.out])⟩
          case measure => simp [intOf]; omega
        · have hd2 : (nth xs k != nth ys k) = true := by simpa using h
          have HE := Lib.hid (show sameB xs ys = false from decide_eq_false (fun q => h (by rw [q])))
          clear h
          go_wp2
          go_quiet (fail)
          go_wp2
          go_returns
          exact ⟨by rw [HE.out]; rfl, _, World.drewN_drewN _ _ _⟩
      · go_wp2
        go_returns
        refine ⟨?_, _, rfl⟩
        have e := he.out
        rw [List.take_of_length_le (by omega), List.take_of_length_le (by have := HL.out; omega)] at e
        rw [show sameB xs ys = true from decide_eq_true e]
        rfl
  · have hd : ((xs.length : Int) != (ys.length : Int)) = true := by rw [bne_iff_ne]; omega
    have HE := Lib.hid (show sameB xs ys = false from decide_eq_false (fun q => hl (by rw [q])))
    clear hl
    go_enter Try.func21, Try.ntmps21
    go_wp2
    go_returns
    exact ⟨by rw [HE.out]; rfl, 0, rfl⟩

/-- No element is less than the one before it. -/
def risB (xs : List Int) : Bool := decide (∀ i, i < xs.length → i + 1 < xs.length → nth xs i ≤ nth xs (i + 1))
set_option maxHeartbeats 800000 in
theorem rising_any (at0 : Option Addr) (cap : Nat) (xs : List Int) (w : World) (hi : Ints w .u64 at0 cap xs) :
    Calls Try.prog 25 #[.slice at0 xs.length cap] w fun e w' => e = .returned (.bool (risB xs)) ∧ ∃ n, w' = w.drewN n := by
  have hm := hi.most
  have hr := hi.room
  have HI := Lib.hid hi
  clear hi
  go_enter Try.func25, Try.ntmps25
  go_wp2
  go_loopw [3] (fun i wr => ∃ k n : Nat, 1 ≤ k ∧ (k ≤ xs.length ∨ k = 1) ∧ i = .int .i64 k ∧ wr = w.drewN n ∧ Hid (∀ i, i + 1 < k → nth xs i ≤ nth xs (i + 1))) (fun i _ => xs.length + 1 - (intOf i).toNat)
  case atStart => exact ⟨1, 0, by omega, by omega, rfl, rfl, Lib.hid (fun i hi => by omega)⟩
  case round =>
    obtain ⟨k, n, hk1, hk, rfl, rfl, he⟩ := hrel
    by_cases hlt : k < xs.length
    · obtain ⟨b, off, e1, hcs⟩ := HI.out.cells (by omega)
      subst e1
      have hc := hcs k hlt
      obtain ⟨j, rfl⟩ : ∃ j, k = j + 1 := ⟨k - 1, by omega⟩
      have hc0 := hcs j (by omega)
      clear hcs
      have i0 : (0 : Int) ≤ (j : Int) := by omega
      have i1 : (j : Int) + 1 < (xs.length : Int) := by omega
      by_cases h : nth xs (j + 1) < nth xs j
      · have hd : decide (nth xs (j + 1) < nth xs j) = true := decide_eq_true h
        have HE := Lib.hid (show risB xs = false from decide_eq_false (fun q => by have := q j (by omega) (by omega); omega))
        clear h
        go_wp2
        go_quiet (fail)
        go_wp2
        go_returns
        exact ⟨by rw [HE.out]; rfl, _, World.drewN_drewN _ _ _⟩
      · have hd : decide (nth xs (j + 1) < nth xs j) = false := decide_eq_false h
        have HN := Lib.hid h
        clear h
        go_wp2
        go_quiet (fail)
        go_wp2
        go_roundw
        case rel => exact ⟨j + 1 + 1, _, by omega, by omega, by go_num, rfl, Lib.hid (fun i hi => by
          rcases Nat.lt_or_ge (i + 1) (j + 1) with q | q
          · exact he.out i q
          · obtain rfl : i = j := by omega
            have := HN.out
            omega)⟩
        case measure => simp [intOf]; omega
    · go_wp2
      go_returns
      refine ⟨?_, _, rfl⟩
      rw [show risB xs = true from decide_eq_true (fun i _ hi => he.out i (by omega))]
      rfl

def sinceV (x y : Int) : Int := if y < x then 0 else y - x
def sinceE (x y : Int) : Int := if y < x then 32 else 0
theorem rsince_any (x y : Int) (w : World) (h1 : 0 ≤ x) (h1' : x ≤ 18446744073709551615) (h2 : 0 ≤ y) (h2' : y ≤ 18446744073709551615) :
    Calls Try.prog 22 #[.int .u64 x, .int .u64 y] w fun e w' => e = .returned (.tuple #[.int .u64 (sinceV x y), .int .i64 (sinceE x y)]) ∧ w' = w := by
  by_cases h : y < x
  · have e1 := Lib.hid (show sinceV x y = 0 from if_pos h)
    have e2 := Lib.hid (show sinceE x y = 32 from if_pos h)
    go_enter Try.func22, Try.ntmps22
    go_wp2
    go_returns
    exact ⟨by rw [e1.out, e2.out]; rfl, rfl⟩
  · have e1 := Lib.hid (show sinceV x y = y - x from if_neg h)
    have e2 := Lib.hid (show sinceE x y = 0 from if_neg h)
    have h' : x ≤ y := by omega
    clear h
    go_enter Try.func22, Try.ntmps22
    go_wp2
    go_returns
    exact ⟨by rw [e1.out, e2.out]; rfl, rfl⟩
def afterV (t n : Int) : Int := if 18446744073709551615 - t < n then 0 else t + n
def afterE (t n : Int) : Int := if 18446744073709551615 - t < n then 16 else 0
theorem rafter_any (t n : Int) (w : World) (h1 : 0 ≤ t) (h1' : t ≤ 18446744073709551615) (h2 : 0 ≤ n) (h2' : n ≤ 18446744073709551615) :
    Calls Try.prog 23 #[.int .u64 t, .int .u64 n] w fun e w' => e = .returned (.tuple #[.int .u64 (afterV t n), .int .i64 (afterE t n)]) ∧ w' = w := by
  by_cases h : 18446744073709551615 - t < n
  · have e1 := Lib.hid (show afterV t n = 0 from if_pos h)
    have e2 := Lib.hid (show afterE t n = 16 from if_pos h)
    go_enter Try.func23, Try.ntmps23
    go_wp2
    go_returns
    exact ⟨by rw [e1.out, e2.out]; rfl, rfl⟩
  · have e1 := Lib.hid (show afterV t n = t + n from if_neg h)
    have e2 := Lib.hid (show afterE t n = 0 from if_neg h)
    have h' : n ≤ 18446744073709551615 - t := by omega
    clear h
    go_enter Try.func23, Try.ntmps23
    go_wp2
    go_returns
    exact ⟨by rw [e1.out, e2.out]; rfl, rfl⟩
def longB (n : Nat) : Bool := decide (40 < n ∧ n ≤ 200 ∨ 300 < n)
theorem long_any (at0 : Option Addr) (len cap : Nat) (w : World) (hm : len ≤ 9223372036854775807) :
    Calls Try.prog 16 #[.slice at0 len cap] w fun e w' => e = .returned (.bool (longB len)) ∧ w' = w := by
  have HL : Hid (longB len = decide (40 < len ∧ len ≤ 200 ∨ 300 < len)) := rfl
  by_cases h1 : (len : Int) > 40
  · have d1 : decide ((len : Int) > 40) = true := decide_eq_true h1
    by_cases h2 : (len : Int) ≤ 200
    · have d2 : decide ((len : Int) ≤ 200) = true := decide_eq_true h2
      have E := Lib.hid (show longB len = true from decide_eq_true (by omega))
      go_enter Try.func16, Try.ntmps16
      go_wp2
      go_returns
      exact ⟨by rw [E.out]; rfl, rfl⟩
    · have d2 : decide ((len : Int) ≤ 200) = false := decide_eq_false h2
      by_cases h3 : (len : Int) > 300
      · have d3 : decide ((len : Int) > 300) = true := decide_eq_true h3
        have E := Lib.hid (show longB len = true from decide_eq_true (by omega))
        clear h1 h2
        go_enter Try.func16, Try.ntmps16
        go_wp2
        go_returns
        exact ⟨by rw [E.out]; rfl, rfl⟩
      · have d3 : decide ((len : Int) > 300) = false := decide_eq_false h3
        have E := Lib.hid (show longB len = false from decide_eq_false (by omega))
        clear h1
        go_enter Try.func16, Try.ntmps16
        go_wp2
        go_returns
        exact ⟨by rw [E.out]; rfl, rfl⟩
  · have d1 : decide ((len : Int) > 40) = false := decide_eq_false h1
    have d3 : decide ((len : Int) > 300) = false := decide_eq_false (by omega)
    have E := Lib.hid (show longB len = false from decide_eq_false (by omega))
    go_enter Try.func16, Try.ntmps16
    go_wp2
    go_returns
    exact ⟨by rw [E.out]; rfl, rfl⟩

end Go.Proofs.Ytdalbngfhinadaa
