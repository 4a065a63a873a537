/-
  The reference of layer 3, walked: the wait, by halving.
-/
import Derived.Test.YtegbcagcfmijcaaRef03D
import Derived.Deep.QuietTactic
import Derived.BigQuiet
namespace Go.Proofs.Ytegbcagcfmijcaa
open Go.RowKit

theorem inN_mono {ra pt a t1 t2 : Int} (h0 : 0 ≤ ra) (h : t1 ≤ t2) : inN ra pt a t1 ≤ inN ra pt a t2 := by
  unfold inN
  have := Int.mul_le_mul_of_nonneg_right (show t1 - a ≤ t2 - a by omega) h0
  omega
theorem filL_mono {bu ra pe le pt a t1 t2 : Int} (hb : Buc bu ra pe le pt a) (h0 : a ≤ t1) (h : t1 ≤ t2) : filL bu ra pe le pt a t1 ≤ filL bu ra pe le pt a t2 := by
  obtain ⟨_, _, h3, _, h5, _⟩ := hb.nums
  have hm := Int.ediv_le_ediv (show 0 < pe by omega) (inN_mono (pt := pt) (a := a) h3 h)
  have := hb.l1
  have f1 : filL bu ra pe le pt a t1 = if bu - le ≤ inN ra pt a t1 / pe then bu else le + inN ra pt a t1 / pe := if_neg (by omega)
  have f2 : filL bu ra pe le pt a t2 = if bu - le ≤ inN ra pt a t2 / pe then bu else le + inN ra pt a t2 / pe := if_neg (by omega)
  rw [f1, f2]
  split <;> split <;> omega
theorem field_level (bu ra pe le pt a : Int) (w : World) : (Instr.field 27 (.agg #[.int .i64 bu, .int .i64 ra, .int .i64 pe, .int .i64 le, .int .i64 pt, .int .u64 a]) 1).run Try.prog w = .ok (.int .i64 le) w := by kernel_rfl
/-- A wait for a cost. -/
structure IsWait (bu ra pe le pt a c n : Int) : Prop where
  num : isU n
  is : (n = 18446744073709551615 ∧ filL bu ra pe le pt a 18446744073709551615 < c) ∨
    (n ≤ 18446744073709551615 - a ∧ c ≤ filL bu ra pe le pt a (a + n) ∧ ∀ m, 0 ≤ m → m < n → filL bu ra pe le pt a (a + m) < c)

end Go.Proofs.Ytegbcagcfmijcaa
