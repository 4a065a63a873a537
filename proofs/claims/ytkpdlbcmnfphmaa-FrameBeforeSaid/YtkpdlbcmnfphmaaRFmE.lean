/-
  The reference of layer 9, walked: word.
-/
import Derived.Test.YtkpdlbcmnfphmaaRFmD
namespace Go.Proofs.Ytkpdlbcmnfphmaa
open Go.RowKit

set_option maxRecDepth 100000 in
set_option maxHeartbeats 1600000 in
theorem word9_is {v : Value} {bs xs : List Int} {k : Nat} {n : Int} (w : World) (h1 : IsL w .u8 v bs) (hk : k + 4 ≤ bs.length) (hm : bs.length ≤ 1000) (hx : (bs.take (k + 4)).drop k = xs) (hb : Byts xs) (hn : num xs = n) (hn2 : 0 ≤ n ∧ n ≤ 4294967295) :
    Calls Try.prog 35 #[v, .int .i64 k] w fun e w' => e = .returned (.int .u32 n) ∧ Below w.heap.size w w' := by
  obtain ⟨a0, c0, rfl, hr, _⟩ := id h1
  have i1 := hr.room
  have i2 := hr.most
  obtain ⟨b, off, rfl, _⟩ := h1.get 0 (by omega)
  have hl : xs.length = 4 := by rw [← hx, List.length_drop, List.length_take]; omega
  have S := Lib.hid (show IsL w .u8 (.slice (some ⟨b, off + k, none⟩) 4 (c0 - k)) xs by rw [← hx]; exact (h1.taken (m := k + 4) (by omega)).dropped (by rw [List.length_take]; omega) (by rw [List.length_take]; omega) rfl (Or.inl rfl))
  have N1 := fun (W : World) (v : Value) (h : IsL W .u8 v xs) => rnum_is W h (by omega) hb
  rw [hn] at N1
  have wn : IntKind.u32.wrap n = n := by rw [IntKind.wrap_u32]; omega
  have wk : IntKind.i64.wrap ((k : Int) + 4) = (k : Int) + 4 := by rw [IntKind.wrap_i64]; omega
  have j0 : ¬ c0 = k := by omega
  have q0 : (0 : Int) ≤ (k : Int) := by omega
  have q1 : (k : Int) ≤ (k : Int) + 4 := by omega
  have q2 : (k : Int) + 4 ≤ (c0 : Int) := by omega
  have q3 : ((k : Int) + 4).toNat = k + 4 := by omega
  have q4 : ((k : Int) + 4 - (k : Int)).toNat = 4 := by omega
  have q5 : k + 4 - k = 4 := by omega
  have q6 : (0 : Int) ≤ (k : Int) + 4 := by omega
  clear hr h1 hx hn hl
  go_enter Try.func35, Try.ntmps35
  go_wp2_with fail
  refine (N1 _ _ S.out).mono ?_
  rintro e w1 ⟨rfl, hb1⟩
  go_wp2_with fail
  go_returns
  exact ⟨rfl, hb1⟩

end Go.Proofs.Ytkpdlbcmnfphmaa
