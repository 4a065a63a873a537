/-
  The reference of layer 1 with its results under names.
-/
import Derived.Test.YtmpcpflpcfanjaaRefB
namespace Go.Proofs.Ytmpcpflpcfanjaa
open Go.RowKit

theorem radd_nm {ah al bh bl h l e : Int} (w : World) (h1 : isU ah) (h2 : isU al) (h3 : isU bh) (h4 : isU bl) (e1 : wHi (addV (wN ah al + wN bh bl)) = h) (e2 : wLo (addV (wN ah al + wN bh bl)) = l) (e3 : addE (wN ah al + wN bh bl) = e) :
    Calls Try.prog 92 #[.agg #[.int .u64 ah, .int .u64 al], .agg #[.int .u64 bh, .int .u64 bl]] w fun e' w' =>
      e' = .returned (.tuple #[.agg #[.int .u64 h, .int .u64 l], .int .i64 e]) ∧ Below w.heap.size w w' := by
  have hA := isW_of h1 h2
  have hB := isW_of h3 h4
  by_cases g : wN ah al + wN bh bl < 340282366920938463463374607431768211456
  · have hw : isW (wN ah al + wN bh bl) := ⟨by have := hA.1; have := hB.1; omega, g⟩
    rw [← e1, ← e2, ← e3, show addV (wN ah al + wN bh bl) = wN ah al + wN bh bl from if_pos g, show addE (wN ah al + wN bh bl) = 0 from if_pos g]
    exact radd_ok w h1 h2 h3 h4 (isU_hi hw) (isU_lo _) (wN_parts _).symm
  · rw [← e1, ← e2, ← e3, show addV (wN ah al + wN bh bl) = 0 from if_neg g, show addE (wN ah al + wN bh bl) = 16 from if_neg g]
    exact radd_no w h1 h2 h3 h4 (by omega)
theorem rcmp_nm {ah al bh bl n : Int} (w : World) (h2 : isU al) (h4 : isU bl) (e : cmpI (wN ah al) (wN bh bl) = n) :
    Calls Try.prog 95 #[.agg #[.int .u64 ah, .int .u64 al], .agg #[.int .u64 bh, .int .u64 bl]] w fun e w' => e = .returned (.int .i64 n) ∧ Below w.heap.size w w' := by
  rw [← e]; exact rcmp_any ah al bh bl w h2 h4

end Go.Proofs.Ytmpcpflpcfanjaa
