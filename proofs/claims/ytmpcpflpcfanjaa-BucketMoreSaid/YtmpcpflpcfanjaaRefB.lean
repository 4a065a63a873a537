/-
  The reference of layer 1, walked: differences and products.
-/
import Derived.Test.YtmpcpflpcfanjaaRef
namespace Go.Proofs.Ytmpcpflpcfanjaa
open Go.RowKit

theorem half_mul {a b : Int} (ha : 0 ≤ a) (ha' : a ≤ 4294967295) (hb : 0 ≤ b) (hb' : b ≤ 4294967295) : 0 ≤ a * b ∧ a * b ≤ 18446744065119617025 :=
  ⟨Int.mul_nonneg ha hb, Int.mul_le_mul ha' hb' hb (by omega)⟩

set_option maxRecDepth 100000 in
set_option maxHeartbeats 1600000 in
theorem rmul_ok {x y h l : Int} (w : World) (h1 : isU x) (h2 : isU y) (g1 : isU h) (g2 : isU l) (e : x * y = wN h l) :
    Calls Try.prog 93 #[.int .u64 x, .int .u64 y] w fun e w' => e = .returned (.agg #[.int .u64 h, .int .u64 l]) ∧ Below w.heap.size w w' := by
  have _ := g1
  have _ := g1
  unfold isU at *
  unfold wN at e
  obtain ⟨a, ha⟩ : ∃ a, x / 4294967296 = a := ⟨_, rfl⟩
  obtain ⟨b, hb⟩ : ∃ b, x % 4294967296 = b := ⟨_, rfl⟩
  obtain ⟨c, hc⟩ : ∃ c, y / 4294967296 = c := ⟨_, rfl⟩
  obtain ⟨d, hd⟩ : ∃ d, y % 4294967296 = d := ⟨_, rfl⟩
  have hx : x = a * 4294967296 + b := by omega
  have hy : y = c * 4294967296 + d := by omega
  have m1 := half_mul (a := b) (b := d) (by omega) (by omega) (by omega) (by omega)
  have m2 := half_mul (a := a) (b := d) (by omega) (by omega) (by omega) (by omega)
  have m3 := half_mul (a := b) (b := c) (by omega) (by omega) (by omega) (by omega)
  have m4 := half_mul (a := a) (b := c) (by omega) (by omega) (by omega) (by omega)
  have tot : x * y = a * c * 18446744073709551616 + a * d * 4294967296 + b * c * 4294967296 + b * d := by
    rw [hx, hy, Int.add_mul, Int.mul_add, Int.mul_add]
    have e1 : a * 4294967296 * (c * 4294967296) = a * c * 18446744073709551616 := by
      rw [Int.mul_assoc, ← Int.mul_assoc 4294967296 c, Int.mul_comm 4294967296 c, Int.mul_assoc c, ← Int.mul_assoc]; rfl
    have e2 : a * 4294967296 * d = a * d * 4294967296 := by rw [Int.mul_assoc, Int.mul_comm 4294967296 d, ← Int.mul_assoc]
    have e3 : b * (c * 4294967296) = b * c * 4294967296 := by rw [← Int.mul_assoc]
    omega
  rw [tot] at e
  have E := Lib.hid e
  have X := Lib.hid hx
  clear e tot hx hy
  go_enter Try.func93, Try.ntmps93
  go_wp2
  go_returns
  refine ⟨ret_wide (by have := E.out; omega) (by have := E.out; omega), ?_⟩
  go_grown

end Go.Proofs.Ytmpcpflpcfanjaa
