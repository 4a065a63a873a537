/-
  Fields compared; the reference's Same.
-/
import Derived.Test.YtpjonhfphfkdiaaRFldB
import Derived.Test.YtpjonhfphfkdiaaShaK
namespace Go.Proofs.Ytpjonhfphfkdiaa
open Go.RowKit

/-- Whether two fields are the same. -/
def eqF (f g : Fd) : Bool := (f.k == g.k) && ((f.n == g.n) && decide (f.d = g.d))
theorem eqF_iff {f g : Fd} : eqF f g = true ↔ f = g := by
  unfold eqF
  simp only [Bool.and_eq_true, beq_iff_eq, decide_eq_true_eq]
  constructor
  · intro ⟨h1, h2, h3⟩
    exact Fd.ext' h1 h2 h3
  · intro h
    rw [h]
    exact ⟨rfl, rfl, rfl⟩
theorem noStood : Try.prog.stoodInHeld 30 = false := by kernel_rfl
theorem isAgg_dig (W : World) : (isAgg 28).run Try.prog W = .ok true W := by kernel_rfl
theorem isAgg_u8 (W : World) : (isAgg 5).run Try.prog W = .ok false W := by kernel_rfl
theorem isAgg_u64 (W : World) : (isAgg 26).run Try.prog W = .ok false W := by kernel_rfl
theorem sz_dig (W : World) : (Go.sizeOf 28).run Try.prog W = .ok 32 W := by kernel_rfl
theorem part_k (k n : Int) (d : List Int) (W : World) : (part 5 (fcell k n d).toArray 0).run Try.prog W = .ok (.int .u8 k) W := by
  unfold part
  simp [Sem.run_bind, fcell]
theorem part_n (k n : Int) (d : List Int) (W : World) : (part 26 (fcell k n d).toArray 1).run Try.prog W = .ok (.int .u64 n) W := by
  unfold part
  simp [Sem.run_bind, fcell]
theorem part_d (k n : Int) (d : List Int) (hd : d.length = 32) (W : World) : (part 28 (fcell k n d).toArray 2).run Try.prog W = .ok (.agg (d.map (Value.int .u8)).toArray) W := by
  unfold part
  simp [Sem.run_bind, fcell]
  rw [List.take_of_length_le (by simp [hd])]
theorem eq_fld (f g : Fd) (W : World) : (Op.equalIn 10000 30 (.agg f.v.toArray) (.agg g.v.toArray)).run Try.prog W = .ok (eqF f g) W := by
  rw [show (10000 : Nat) = 9999 + 1 from rfl, run_equalIn_struct W 9999 30 _ _ Try.underlying30 noStood]
  have e1 : f.v = fcell f.k f.n f.d := rfl
  have e2 : g.v = fcell g.k g.n g.d := rfl
  rw [e1, e2]
  have E := fun W => eq_ints (P := Try.prog) W 9997 Try.underlying28 Try.underlying5 size_u8' f.d g.d f.hl g.hl
  have A := fun W => run_equalIn_int (P := Try.prog) W 9998 5 .u8 .u8 f.k g.k Try.underlying5
  have B := fun W => run_equalIn_int (P := Try.prog) W 9998 26 .u64 .u64 f.n g.n Try.underlying26
  have D1 := part_d f.k f.n f.d f.hl
  have D2 := part_d g.k g.n g.d g.hl
  simp only [Program.fieldsOf, Try.underlying30]
  unfold eqF
  cases h1 : (f.k == g.k) <;> cases h2 : (f.n == g.n) <;> cases h3 : (decide (f.d = g.d)) <;> rw [h1] at A <;> rw [h2] at B <;> rw [h3] at E <;> simp [Op.eqFields, part_k, part_n, D1, D2, A, B, E]

end Go.Proofs.Ytpjonhfphfkdiaa
