/-
  append(row, make([]byte, k)...) onto a row of the call's own.
  slices.Grow of a nil row, slices.Concat of rows of bytes, walked.
  Package token, walked: split.
  Package token, walked: Read.
-/
import Derived.Test.YtpccahdbienjeaaDoorGB1
import Derived.Test.YtpccahdbienjeaaDoorGF2
import Derived.Test.YtpccahdbienjeaaDoorGT1
import Derived.Lib.AppendZerosOnto
import Derived.Lib.SliceRun

namespace Go.Proofs.YtpccahdbienjeaaDoor
open Go.RowKit

end Go.Proofs.YtpccahdbienjeaaDoor

namespace Go.Proofs.YtpccahdbienjeaaDoor
open Go.RowKit

end Go.Proofs.YtpccahdbienjeaaDoor

namespace Go.Proofs.YtpccahdbienjeaaDoor
open Go.RowKit

theorem IsL.empty {w : World} {k : IntKind} {a : Option Addr} {c : Nat} (h : c ≤ 9223372036854775807) (h0 : a = Option.none → c = 0) : IsL w k (.slice a 0 c) [] := ⟨a, c, rfl, ⟨Nat.zero_le _, h, fun q => absurd q (by simp)⟩, h0⟩

end Go.Proofs.YtpccahdbienjeaaDoor

namespace Go.Proofs.YtpccahdbienjeaaDoor
open Go.RowKit

theorem list32 {l : List Int} (h : l.length = 32) : ∃ x0 x1 x2 x3 x4 x5 x6 x7 x8 x9 x10 x11 x12 x13 x14 x15 x16 x17 x18 x19 x20 x21 x22 x23 x24 x25 x26 x27 x28 x29 x30 x31, l = [x0, x1, x2, x3, x4, x5, x6, x7, x8, x9, x10, x11, x12, x13, x14, x15, x16, x17, x18, x19, x20, x21, x22, x23, x24, x25, x26, x27, x28, x29, x30, x31] := by
  match l, h with
  | [x0, x1, x2, x3, x4, x5, x6, x7, x8, x9, x10, x11, x12, x13, x14, x15, x16, x17, x18, x19, x20, x21, x22, x23, x24, x25, x26, x27, x28, x29, x30, x31], _ => exact ⟨x0, x1, x2, x3, x4, x5, x6, x7, x8, x9, x10, x11, x12, x13, x14, x15, x16, x17, x18, x19, x20, x21, x22, x23, x24, x25, x26, x27, x28, x29, x30, x31, rfl⟩
end Go.Proofs.YtpccahdbienjeaaDoor
