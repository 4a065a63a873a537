/-
  The functions of package wide, walked: what each returns, said of the number that a pair of parts stands for; each leaves what was there as it was.
-/
import Derived.Test.YtegbcagcfmijcaaDiv64
import Derived.Shelf.Spec.BitsCarry
namespace Go.Proofs.Ytegbcagcfmijcaa
open Go.RowKit

/-- The number of a pair of parts, and the parts of a number. -/
def wN (h l : Int) : Int := h * 18446744073709551616 + l
def wHi (n : Int) : Int := n / 18446744073709551616
def wLo (n : Int) : Int := n % 18446744073709551616
/-- A number of 64 bits, of 128 bits. -/
def isU (x : Int) : Prop := 0 ≤ x ∧ x ≤ 18446744073709551615
def isW (n : Int) : Prop := 0 ≤ n ∧ n < 340282366920938463463374607431768211456

theorem wN_parts (n : Int) : wN (wHi n) (wLo n) = n := by unfold wN wHi wLo; omega
theorem isU_hi {n : Int} (h : isW n) : isU (wHi n) := by unfold isW at h; unfold isU wHi; omega
theorem isU_lo (n : Int) : isU (wLo n) := by unfold isU wLo; omega
theorem isW_of {h l : Int} (a : isU h) (b : isU l) : isW (wN h l) := by unfold isU at a b; unfold isW wN; omega
theorem wHi_wN {h l : Int} (b : isU l) : wHi (wN h l) = h := by unfold isU at b; unfold wHi wN; omega
theorem wLo_wN {h l : Int} (b : isU l) : wLo (wN h l) = l := by unfold isU at b; unfold wLo wN; omega
theorem wHi_zero : wHi 0 = 0 := rfl
theorem wLo_zero : wLo 0 = 0 := rfl

def cmpI (x y : Int) : Int := if x < y then -1 else if y < x then 1 else 0

set_option maxRecDepth 100000 in
set_option maxHeartbeats 400000 in
theorem compare_any (x y : Int) (w : World) : Calls Try.prog 44 #[.int .u64 x, .int .u64 y] w fun e w' => e = .returned (.int .i64 (cmpI x y)) ∧ w' = w := by
  rcases Int.lt_trichotomy x y with h | h | h
  all_goals
    have hc := Lib.hid (show cmpI x y = if x < y then -1 else if y < x then 1 else 0 from rfl)
  · rw [if_pos h] at hc
    go_enter Try.func44, Try.ntmps44
    go_wp2
    go_returns
    exact ⟨by rw [hc.out]; rfl, rfl⟩
  · rw [if_neg (by omega), if_neg (by omega)] at hc
    have h1 : decide (x < y) = false := by simp; omega
    have h2 : decide (x > y) = false := by simp; omega
    clear h
    go_enter Try.func44, Try.ntmps44
    go_wp2
    go_returns
    exact ⟨by rw [hc.out]; rfl, rfl⟩
  · rw [if_neg (by omega), if_pos h] at hc
    go_enter Try.func44, Try.ntmps44
    go_wp2
    go_returns
    exact ⟨by rw [hc.out]; rfl, rfl⟩

def orI (x y : Int) : Int := if x = 0 then y else x
set_option maxRecDepth 100000 in
set_option maxHeartbeats 400000 in
theorem or_any (x y : Int) (b : Nat) (w : World) (h0 : w.cell? ⟨b, 0, none⟩ = some (.int .i64 x)) (h1 : w.cell? ⟨b, 1, none⟩ = some (.int .i64 y)) :
    Calls Try.prog 43 #[.slice (some ⟨b, 0, none⟩) 2 2] w fun e w' => e = .returned (.int .i64 (orI x y)) ∧ w' = w := by
  by_cases hx : x = 0
  · have ex : (x != 0) = false := by simp [hx]
    by_cases hy : y = 0
    · have ey : (y != 0) = false := by simp [hy]
      go_enter Try.func43, Try.ntmps43
      go_wp2
      go_rounds 3
      go_returns
      simp [orI, hx, hy]
    · have ey : (y != 0) = true := by simp [hy]
      go_enter Try.func43, Try.ntmps43
      go_wp2
      go_rounds 3
      go_returns
      simp [orI, hx]
  · have ex : (x != 0) = true := by simp [hx]
    go_enter Try.func43, Try.ntmps43
    go_wp2
    go_rounds 3
    go_returns
    simp [orI, hx]

theorem cmp_or {ah al bh bl : Int} (h2 : isU al) (h4 : isU bl) : orI (cmpI ah bh) (cmpI al bl) = cmpI (wN ah al) (wN bh bl) := by
  unfold isU at h2 h4
  unfold wN
  by_cases c1 : ah < bh
  · rw [show cmpI ah bh = -1 from if_pos c1, show cmpI (ah * 18446744073709551616 + al) (bh * 18446744073709551616 + bl) = -1 from if_pos (by omega)]
    rfl
  · by_cases c2 : bh < ah
    · rw [show cmpI ah bh = 1 from (if_neg c1).trans (if_pos c2), show cmpI (ah * 18446744073709551616 + al) (bh * 18446744073709551616 + bl) = 1 from (if_neg (by omega)).trans (if_pos (by omega))]
      rfl
    · obtain rfl : ah = bh := by omega
      rw [show cmpI ah ah = 0 from (if_neg (by omega)).trans (if_neg (by omega)), show orI 0 (cmpI al bl) = cmpI al bl from rfl]
      by_cases c3 : al < bl
      · rw [show cmpI al bl = -1 from if_pos c3, show cmpI (ah * 18446744073709551616 + al) (ah * 18446744073709551616 + bl) = -1 from if_pos (by omega)]
      · by_cases c4 : bl < al
        · rw [show cmpI al bl = 1 from (if_neg c3).trans (if_pos c4), show cmpI (ah * 18446744073709551616 + al) (ah * 18446744073709551616 + bl) = 1 from (if_neg (by omega)).trans (if_pos (by omega))]
        · rw [show cmpI al bl = 0 from (if_neg c3).trans (if_neg c4), show cmpI (ah * 18446744073709551616 + al) (ah * 18446744073709551616 + bl) = 0 from (if_neg (by omega)).trans (if_neg (by omega))]

set_option maxRecDepth 100000 in
set_option maxHeartbeats 400000 in
theorem wcmp_any (ah al bh bl : Int) (w : World) (h2 : isU al) (h4 : isU bl) :
    Calls Try.prog 33 #[.agg #[.int .u64 ah, .int .u64 al], .agg #[.int .u64 bh, .int .u64 bl]] w fun e w' => e = .returned (.int .i64 (cmpI (wN ah al) (wN bh bl))) ∧ Below w.heap.size w w' := by
  have HC := Lib.hid (cmp_or (ah := ah) (bh := bh) h2 h4)
  go_enter Try.func33, Try.ntmps33
  go_wp2
  refine region_still_tail 10 (by kernel_rfl) (by kernel_rfl) ?_
  simp only [List.take_succ_cons, List.take_zero, List.drop_succ_cons, List.drop_zero]
  repeat still_step
  still_call (compare_any _ _ _)
  repeat still_step
  still_call (compare_any _ _ _)
  refine wpStill_nil ?_
  go_wp2_with (go_at_call 43; refine (or_any (cmpI ah bh) (cmpI al bl) _ _ (by go_cell) (by go_cell)).mono ?_; rintro e w' ⟨rfl, rfl⟩)
  go_returns
  refine ⟨by rw [← HC.out]; rfl, ?_⟩
  go_grown

theorem of_any (x : Int) (w : World) :
    Calls Try.prog 34 #[.int .u64 x] w fun e w' => e = .returned (.agg #[.int .u64 0, .int .u64 x]) ∧ Below w.heap.size w w' := by
  go_enter Try.func34, Try.ntmps34
  go_wp2
  go_returns
  refine ⟨rfl, ?_⟩
  go_grown

def smV (h l : Int) : Int := if h = 0 then l else 0
def smE (h : Int) : Int := if h = 0 then 0 else 16
theorem add64_run (x y c : Int) (hx : 0 ≤ x) (hy : 0 ≤ y) (hc : 0 ≤ c) (hc1 : c ≤ 1) (w : World) :
    (callFunc 45 #[.int .u64 x, .int .u64 y, .int .u64 c]).run Try.prog w = .ok (.value (.tuple #[.int .u64 ((x + y + c) % 18446744073709551616), .int .u64 ((x + y + c) / 18446744073709551616)])) w := by
  rw [run_callFunc_extern Try.func45 (by kernel_rfl) (by kernel_rfl) (by kernel_rfl) (e := add64Entry) (by kernel_rfl), run_add64 x y c hx hy hc hc1]
  rfl

def brw (n : Int) : Int := if n < 0 then 1 else 0
def addV (n : Int) : Int := if n < 340282366920938463463374607431768211456 then n else 0
def addE (n : Int) : Int := if n < 340282366920938463463374607431768211456 then 0 else 16
def subV (n : Int) : Int := if 0 ≤ n then n else 0
def subE (n : Int) : Int := if 0 ≤ n then 0 else 16
theorem isW_addV {n : Int} (h : 0 ≤ n) : isW (addV n) := by unfold addV isW; split <;> omega
theorem isW_subV {n : Int} (h : n < 340282366920938463463374607431768211456) : isW (subV n) := by unfold subV isW; split <;> omega

set_option maxRecDepth 100000 in
set_option maxHeartbeats 400000 in
theorem add_any (ah al bh bl : Int) (w : World) (h1 : isU ah) (h2 : isU al) (h3 : isU bh) (h4 : isU bl) :
    Calls Try.prog 40 #[.agg #[.int .u64 ah, .int .u64 al], .agg #[.int .u64 bh, .int .u64 bl]] w fun e w' =>
      e = .returned (.tuple #[.agg #[.int .u64 (wHi (addV (wN ah al + wN bh bl))), .int .u64 (wLo (addV (wN ah al + wN bh bl)))], .int .i64 (addE (wN ah al + wN bh bl))]) ∧ Below w.heap.size w w' := by
  unfold isU at h1 h2 h3 h4
  have hr0 := add64_run al bl 0 h2.1 h4.1 (by omega) (by omega)
  have hc : 0 ≤ (al + bl) / 18446744073709551616 ∧ (al + bl) / 18446744073709551616 ≤ 1 := by omega
  have hr1 := add64_run ah bh ((al + bl) / 18446744073709551616) h1.1 h3.1 hc.1 hc.2
  simp only [Int.add_zero] at hr0
  by_cases hs : wN ah al + wN bh bl < 340282366920938463463374607431768211456
  · have e1 := Lib.hid (show addE (wN ah al + wN bh bl) = 0 from if_pos hs)
    have e2 := Lib.hid (show addV (wN ah al + wN bh bl) = wN ah al + wN bh bl from if_pos hs)
    have e3 : Hid (wHi (wN ah al + wN bh bl) = (ah + bh + (al + bl) / 18446744073709551616) % 18446744073709551616) := by refine Lib.hid ?_; unfold wHi; unfold wN at hs ⊢; omega
    have e4 : Hid (wLo (wN ah al + wN bh bl) = (al + bl) % 18446744073709551616) := by refine Lib.hid ?_; unfold wLo wN; omega
    have e5 : ((ah + bh + (al + bl) / 18446744073709551616) / 18446744073709551616 != 0) = false := by unfold wN at hs; simp; omega
    clear hs
    go_enter Try.func40, Try.ntmps40
    go_wp2
    go_returns
    refine ⟨by rw [e1.out, e2.out, e3.out, e4.out], ?_⟩
    go_grown
  · have e1 := Lib.hid (show addE (wN ah al + wN bh bl) = 16 from if_neg hs)
    have e2 := Lib.hid (show addV (wN ah al + wN bh bl) = 0 from if_neg hs)
    have e5 : ((ah + bh + (al + bl) / 18446744073709551616) / 18446744073709551616 != 0) = true := by unfold wN at hs; simp; omega
    clear hs
    go_enter Try.func40, Try.ntmps40
    go_wp2
    go_returns
    refine ⟨by rw [e1.out, e2.out]; rfl, ?_⟩
    go_grown

theorem mul_any (x y : Int) (w : World) (h1 : isU x) (h2 : isU y) :
    Calls Try.prog 41 #[.int .u64 x, .int .u64 y] w fun e w' => e = .returned (.agg #[.int .u64 (wHi (x * y)), .int .u64 (wLo (x * y))]) ∧ Below w.heap.size w w' := by
  unfold isU at h1 h2
  obtain ⟨x, rfl⟩ := Int.eq_ofNat_of_zero_le h1.1
  obtain ⟨y, rfl⟩ := Int.eq_ofNat_of_zero_le h2.1
  go_enter Try.func41, Try.ntmps41
  go_wp2_with (go_at_call 46; refine (Try.bits_Mul64 x y (by omega) (by omega) _).mono ?_; rintro e w' ⟨rfl, rfl⟩)
  go_returns
  refine ⟨rfl, ?_⟩
  go_grown

end Go.Proofs.Ytegbcagcfmijcaa
