/-
  The reference of layer 3, walked: the wait, by halving.
-/
import Derived.Test.YtmpcpflpcfanjaaRef03D
import Derived.Deep.QuietTactic
import Derived.BigQuiet
namespace Go.Proofs.Ytmpcpflpcfanjaa
open Go.RowKit

theorem inN_mono {ra pt a t1 t2 : Int} (h0 : 0 ≤ ra) (h : t1 ≤ t2) : inN ra pt a t1 ≤ inN ra pt a t2 := by
  unfold inN
  have := Int.mul_le_mul_of_nonneg_right (show t1 - a ≤ t2 - a by omega) h0
  omega
theorem filL_mono {bu ra pe le pt a t1 t2 : Int} (hb : Buc bu ra pe le pt a) (h0 : a ≤ t1) (h : t1 ≤ t2) : filL bu ra pe le pt a t1 ≤ filL bu ra pe le pt a t2 := by
  obtain ⟨_, _, h3, _, h5, _⟩ := hb.nums
  have hm := Int.ediv_le_ediv (show 0 < pe by omega) (inN_mono (pt := pt) (a := a) h3 h)
  have := hb.l1
  have f1 : filL bu ra pe le pt a t1 = if bu - le ≤ inN ra pt a t1 / pe then bu else le + inN ra pt a t1 / pe := if_neg (by omega)
  have f2 : filL bu ra pe le pt a t2 = if bu - le ≤ inN ra pt a t2 / pe then bu else le + inN ra pt a t2 / pe := if_neg (by omega)
  rw [f1, f2]
  split <;> split <;> omega
theorem field_level (bu ra pe le pt a : Int) (w : World) : (Instr.field 26 (.agg #[.int .i64 bu, .int .i64 ra, .int .i64 pe, .int .i64 le, .int .i64 pt, .int .u64 a]) 1).run Try.prog w = .ok (.int .i64 le) w := by kernel_rfl
/-- A wait for a cost. -/
structure IsWait (bu ra pe le pt a c n : Int) : Prop where
  num : isU n
  is : (n = 18446744073709551615 ∧ filL bu ra pe le pt a 18446744073709551615 < c) ∨
    (n ≤ 18446744073709551615 - a ∧ c ≤ filL bu ra pe le pt a (a + n) ∧ ∀ m, 0 ≤ m → m < n → filL bu ra pe le pt a (a + m) < c)

set_option maxRecDepth 100000 in
set_option maxHeartbeats 3200000 in
theorem rwaited_never {bu ra pe le pt a c : Int} (hb : Buc bu ra pe le pt a) (hc : filL bu ra pe le pt a 18446744073709551615 < c) (w : World) :
    Calls Try.prog 66 #[.agg #[.int .i64 bu, .int .i64 ra, .int .i64 pe, .int .i64 le, .int .i64 pt, .int .u64 a], .int .i64 c] w fun e w' =>
      e = .returned (.int .u64 18446744073709551615) ∧ Below w.heap.size w w' := by
  obtain ⟨L, e1⟩ : ∃ x, filL bu ra pe le pt a 18446744073709551615 = x := ⟨_, rfl⟩
  obtain ⟨P, e2⟩ : ∃ x, filP bu ra pe le pt a 18446744073709551615 = x := ⟨_, rfl⟩
  obtain ⟨T, e3⟩ : ∃ x, filA a 18446744073709551615 = x := ⟨_, rfl⟩
  have d1 : decide (L < c) = true := decide_eq_true (by rw [← e1]; exact hc)
  have E1 := Lib.hid e1
  have E2 := Lib.hid e2
  have E3 := Lib.hid e3
  have HB := Lib.hid hb
  have t0 := hb.tick.1
  have t1 := hb.tick.2
  clear e1 e2 e3 hb hc
  have u1 : IntKind.u64.wrap (18446744073709551615 - a) = 18446744073709551615 - a := IntWalk.u64_in _ (by omega)
  have hf := field_level
  go_enter Try.func66, Try.ntmps66
  go_wp2_with fail
  go_quiet (fail)
  rename_i nq
  go_wp2_with fail
  refine (rfilled_any HB.out uMax E1 E2 E3 _).mono ?_
  rintro e w1 ⟨rfl, hb⟩
  have hB : Below w.heap.size w w1 := below_thru (below_drewN ((Below.refl _ _).alloc (Nat.le_refl _) _) nq) hb
  clear hb
  go_wp2_with fail
  go_returns
  exact ⟨rfl, hB⟩

set_option maxRecDepth 100000 in
set_option maxHeartbeats 3200000 in
theorem rwaited_some {bu ra pe le pt a c : Int} (hb : Buc bu ra pe le pt a) (hc : ¬ filL bu ra pe le pt a 18446744073709551615 < c) (w : World) :
    Calls Try.prog 66 #[.agg #[.int .i64 bu, .int .i64 ra, .int .i64 pe, .int .i64 le, .int .i64 pt, .int .u64 a], .int .i64 c] w fun e w' =>
      (∃ n, e = .returned (.int .u64 n) ∧ IsWait bu ra pe le pt a c n) ∧ Below w.heap.size w w' := by
  obtain ⟨L, e1⟩ : ∃ x, filL bu ra pe le pt a 18446744073709551615 = x := ⟨_, rfl⟩
  obtain ⟨P, e2⟩ : ∃ x, filP bu ra pe le pt a 18446744073709551615 = x := ⟨_, rfl⟩
  obtain ⟨T, e3⟩ : ∃ x, filA a 18446744073709551615 = x := ⟨_, rfl⟩
  have d1 : decide (L < c) = false := decide_eq_false (by rw [← e1]; exact hc)
  have E0 := Lib.hid (show c ≤ filL bu ra pe le pt a (a + (18446744073709551615 - a)) by rw [show a + (18446744073709551615 - a) = 18446744073709551615 by omega]; omega)
  have E1 := Lib.hid e1
  have E2 := Lib.hid e2
  have E3 := Lib.hid e3
  have HB := Lib.hid hb
  have t0 := hb.tick.1
  have t1 := hb.tick.2
  clear e1 e2 e3 hb hc
  have u1 : IntKind.u64.wrap (18446744073709551615 - a) = 18446744073709551615 - a := IntWalk.u64_in _ (by omega)
  have hf := field_level
  go_enter Try.func66, Try.ntmps66
  go_wp2_with fail
  go_quiet (fail)
  rename_i nq
  go_wp2_with fail
  refine (rfilled_any HB.out uMax E1 E2 E3 _).mono ?_
  rintro e w1 ⟨rfl, hb⟩
  have hB : Below w.heap.size w w1 := below_thru (below_drewN ((Below.refl _ _).alloc (Nat.le_refl _) _) nq) hb
  have hX : Box w1 w.heap.size [.int .i64 bu, .int .i64 ra, .int .i64 pe, .int .i64 le, .int .i64 pt, .int .u64 a] := Box.below (Box.drewN (box6 _ _ _ _ _ _) nq) hb
  clear hb E1 E2 E3
  go_wp2_with fail
  go_loopw [5, 6] (fun s5 s6 wr => ∃ lo hi : Int, s5 = .int .u64 lo ∧ s6 = .int .u64 hi ∧ 0 ≤ lo ∧ lo ≤ hi ∧ hi ≤ 18446744073709551615 - a ∧ Hid (c ≤ filL bu ra pe le pt a (a + hi)) ∧ Hid (∀ m, 0 ≤ m → m < lo → filL bu ra pe le pt a (a + m) < c) ∧
    Box wr w.heap.size [.int .i64 bu, .int .i64 ra, .int .i64 pe, .int .i64 le, .int .i64 pt, .int .u64 a] ∧ Below w.heap.size w wr) (fun s5 s6 _ => (intOf s6 - intOf s5).toNat)
  case atStart => exact ⟨0, 18446744073709551615 - a, rfl, rfl, by omega, by omega, by omega, E0, Lib.hid (fun m h1 h2 => by omega), hX, hB⟩
  case round =>
    clear hX hB E0
    obtain ⟨lo, hi, rfl, rfl, h0, h1, h2, h3, h4, hX, hB⟩ := hrel
    by_cases hlt : lo < hi
    · obtain ⟨md, hmd⟩ : ∃ x, lo + (hi - lo) / 2 = x := ⟨_, rfl⟩
      have b1 : lo ≤ md := by omega
      have b2 : md < hi := by omega
      obtain ⟨L, e1⟩ : ∃ x, filL bu ra pe le pt a (a + md) = x := ⟨_, rfl⟩
      obtain ⟨P, e2⟩ : ∃ x, filP bu ra pe le pt a (a + md) = x := ⟨_, rfl⟩
      obtain ⟨T, e3⟩ : ∃ x, filA a (a + md) = x := ⟨_, rfl⟩
      have E1 := Lib.hid e1
      have E2 := Lib.hid e2
      have E3 := Lib.hid e3
      have HM := Lib.hid hmd
      have b3 : isU (a + md) := by unfold isU; omega
      have c0 := hX.c 0 _ rfl
      have c1 := hX.c 1 _ rfl
      have c2 := hX.c 2 _ rfl
      have c3 := hX.c 3 _ rfl
      have c4 := hX.c 4 _ rfl
      have c5 := hX.c 5 _ rfl
      have hX' := Lib.hid hX
      have b4 : 0 ≤ (hi - lo) / 2 := by omega
      have b5 : lo + (hi - lo) / 2 ≤ 18446744073709551615 := by omega
      have b6 : 0 ≤ a + md := by omega
      have b7 : a + md ≤ 18446744073709551615 := by omega
      clear e1 e2 e3 hX hmd
      go_wp2_with fail
      rw [HM.out]
      refine (rfilled_any HB.out b3 E1 E2 E3 _).mono ?_
      rintro e w2 ⟨rfl, hb⟩
      have hB2 := below_thru hB hb
      have hX2 := Lib.hid (Box.below hX'.out hb)
      clear hb hB hX' c0 c1 c2 c3 c4 c5
      by_cases hg : c ≤ L
      · have d2 : decide (c ≤ L) = true := decide_eq_true hg
        have HG := Lib.hid hg
        clear hg
        go_wp2_with fail
        go_roundw
        case rel => exact ⟨lo, md, rfl, rfl, h0, b1, by omega, Lib.hid (by rw [E1.out]; exact HG.out), h4, hX2.out, hB2⟩
        case measure => simp [intOf]; omega
      · have d2 : decide (c ≤ L) = false := decide_eq_false hg
        have HG := Lib.hid (show ∀ m, 0 ≤ m → m < md + 1 → filL bu ra pe le pt a (a + m) < c from fun m q0 q1 => by
          have := filL_mono (t1 := a + m) (t2 := a + md) HB.out (by omega) (by omega)
          rw [E1.out] at this
          omega)
        clear hg
        go_wp2_with fail
        go_roundw
        case rel => exact ⟨md + 1, hi, rfl, rfl, by omega, by omega, h2, h3, HG, hX2.out, hB2⟩
        case measure => simp [intOf]; omega
    · obtain rfl : lo = hi := by omega
      go_wp2_with fail
      go_returns
      exact ⟨⟨lo, rfl, ⟨by unfold isU; omega, .inr ⟨h2, h3.out, h4.out⟩⟩⟩, hB⟩

end Go.Proofs.Ytmpcpflpcfanjaa
