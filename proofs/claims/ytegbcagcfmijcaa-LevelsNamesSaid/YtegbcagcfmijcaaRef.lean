/-
  The reference of layer 1, walked: comparing, sums, differences, products.
-/
import Derived.Test.YtegbcagcfmijcaaWideOk
namespace Go.Proofs.Ytegbcagcfmijcaa
open Go.RowKit

theorem ret_wide_int {x y h l e e' : Int} (hx : x = h) (hy : y = l) (he : e = e') : Ending.returned (.tuple #[.agg #[.int .u64 x, .int .u64 y], .int .i64 e]) = .returned (.tuple #[.agg #[.int .u64 h, .int .u64 l], .int .i64 e']) := by rw [hx, hy, he]
theorem ret_wide {x y h l : Int} (hx : x = h) (hy : y = l) : Ending.returned (.agg #[.int .u64 x, .int .u64 y]) = .returned (.agg #[.int .u64 h, .int .u64 l]) := by rw [hx, hy]

end Go.Proofs.Ytegbcagcfmijcaa
