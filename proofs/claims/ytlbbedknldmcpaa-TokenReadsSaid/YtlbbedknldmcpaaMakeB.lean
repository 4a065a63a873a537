/-
  make([]byte, n): n zero bytes in a block of the walk's own.
-/
import Derived.Test.YtlbbedknldmcpaaKit
import Derived.Laws.MakeOwn
namespace Go.Proofs.Ytlbbedknldmcpaa
open Go.RowKit

def zb (n : Nat) : Array Value := ((List.replicate n (0 : Int)).map (Value.int .u8)).toArray
theorem made_zb (n : Nat) : madeCells #[.int .u8 0] n = zb n := by
  apply Array.ext
  · simp [madeCells, zb]
  · intro i h1 h2
    simp [madeCells, zb, Nat.mod_one]
set_option maxRecDepth 100000 in
theorem info_u8 : (Try.prog.info? 5).map (fun i => (i.zero, i.size, i.bytes)) = some (some (.int .u8 0), 1, 1) := by kernel_rfl
set_option maxRecDepth 100000 in
theorem make_bytes (m : Nat) (hm : m ≤ 1000000) (w : World) : (Instr.makeSlice 28 (.int .i64 (m : Int)) (.int .i64 (m : Int))).run Try.prog w = .ok (.slice (some ⟨w.heap.size, 0, none⟩) m m) (w.alloc (.cells (zb m) 5)) := by
  obtain ⟨ti, hin, hz0, hz1, hz2⟩ := info_parts info_u8
  rw [run_make (P := Try.prog) w 28 5 ti (.int .u8 0) Try.underlying28 hin hz0 .i64 .i64 m m (by omega) (by omega) (by rw [hz2]; omega) (by omega), hz1]
  simp only [Int.toNat_natCast, Nat.mul_one]
  rw [← made_zb]
  rfl

end Go.Proofs.Ytlbbedknldmcpaa
