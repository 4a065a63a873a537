/-
  Tokens compared.
-/
import Derived.Test.YtlbbedknldmcpaaTokA
import Derived.Test.YtlbbedknldmcpaaArrEq
namespace Go.Proofs.Ytlbbedknldmcpaa
open Go.RowKit

/-- Whether two tokens are the same. -/
def eqT (k l : Nums) (g h : List Int) : Bool := (k.t == l.t) && ((k.u == l.u) && ((k.e == l.e) && ((k.x == l.x) && decide (g = h))))
theorem eqT_iff {k l : Nums} {g h : List Int} : eqT k l g h = true ↔ k = l ∧ g = h := by
  unfold eqT
  simp only [Bool.and_eq_true, beq_iff_eq, decide_eq_true_eq]
  constructor
  · intro ⟨h1, h2, h3, h4, h5⟩
    exact ⟨Nums.ext' h1 h2 h3 h4, h5⟩
  · intro ⟨h1, h2⟩
    rw [h1, h2]
    exact ⟨rfl, rfl, rfl, rfl, rfl⟩
theorem noStoodT : Try.prog.stoodInHeld 27 = false := by kernel_rfl
theorem isAgg_digT (W : World) : (isAgg 25).run Try.prog W = .ok true W := by kernel_rfl
theorem isAgg_u32T (W : World) : (isAgg 22).run Try.prog W = .ok false W := by kernel_rfl
theorem isAgg_u64T (W : World) : (isAgg 23).run Try.prog W = .ok false W := by kernel_rfl
theorem sz_digT (W : World) : (Go.sizeOf 25).run Try.prog W = .ok 32 W := by kernel_rfl
theorem partT_0 (k : Nums) (g : List Int) (W : World) : (part 22 (tcell k g).toArray 0).run Try.prog W = .ok (.int .u32 k.t) W := by
  unfold part
  simp [Sem.run_bind, tcell]
theorem partT_1 (k : Nums) (g : List Int) (W : World) : (part 22 (tcell k g).toArray 1).run Try.prog W = .ok (.int .u32 k.u) W := by
  unfold part
  simp [Sem.run_bind, tcell]
theorem partT_2 (k : Nums) (g : List Int) (W : World) : (part 22 (tcell k g).toArray 2).run Try.prog W = .ok (.int .u32 k.e) W := by
  unfold part
  simp [Sem.run_bind, tcell]
theorem partT_3 (k : Nums) (g : List Int) (W : World) : (part 23 (tcell k g).toArray 3).run Try.prog W = .ok (.int .u64 k.x) W := by
  unfold part
  simp [Sem.run_bind, tcell]
theorem partT_4 (k : Nums) {g : List Int} (hg : g.length = 32) (W : World) : (part 25 (tcell k g).toArray 4).run Try.prog W = .ok (.agg (g.map (Value.int .u8)).toArray) W := by
  unfold part
  simp [Sem.run_bind, tcell]
  rw [List.take_of_length_le (by simp [hg])]
theorem eqF_cons {P : Program} {w : World} {d : Nat} {xs ys : Array Value} {f : Field} {fs : List Field} {a b : Value} {r : Bool} (hn : f.name ≠ "_") (ha : (part f.type xs f.offset).run P w = .ok a w) (hb : (part f.type ys f.offset).run P w = .ok b w)
    (hr : (Op.equalIn d f.type a b).run P w = .ok r w) : (Op.eqFields d xs ys (f :: fs)).run P w = if r = true then (Op.eqFields d xs ys fs).run P w else .ok false w := by
  rw [Op.eqFields, if_pos hn]
  simp only [Sem.run_bind, ha, hb, hr, Result.andThen_ok]
  cases r
  · rfl
  · rfl
theorem and_run {w : World} {r s : Bool} {x : Result Bool} (h : x = .ok s w) : (if r = true then x else .ok false w) = .ok (r && s) w := by
  cases r
  · rfl
  · exact h
theorem eq_tok (k l : Nums) {g h : List Int} (hg : g.length = 32) (hh : h.length = 32) (W : World) : (Op.equalIn 10000 27 (.agg (tcell k g).toArray) (.agg (tcell l h).toArray)).run Try.prog W = .ok (eqT k l g h) W := by
  rw [show (10000 : Nat) = 9999 + 1 from rfl, run_equalIn_struct W 9999 27 _ _ Try.underlying27 noStoodT]
  have E := eq_ints (P := Try.prog) W 9997 Try.underlying25 Try.underlying5 size_u8' g h hg hh
  have A0 := run_equalIn_int (P := Try.prog) W 9998 22 .u32 .u32 k.t l.t Try.underlying22
  have A1 := run_equalIn_int (P := Try.prog) W 9998 22 .u32 .u32 k.u l.u Try.underlying22
  have A2 := run_equalIn_int (P := Try.prog) W 9998 22 .u32 .u32 k.e l.e Try.underlying22
  have A3 := run_equalIn_int (P := Try.prog) W 9998 23 .u64 .u64 k.x l.x Try.underlying23
  have D1 := partT_4 k hg W
  have D2 := partT_4 l hh W
  simp only [Program.fieldsOf, Try.underlying27]
  unfold eqT
  refine (eqF_cons (by decide) (partT_0 k g W) (partT_0 l h W) A0).trans (and_run ?_)
  refine (eqF_cons (by decide) (partT_1 k g W) (partT_1 l h W) A1).trans (and_run ?_)
  refine (eqF_cons (by decide) (partT_2 k g W) (partT_2 l h W) A2).trans (and_run ?_)
  refine (eqF_cons (by decide) (partT_3 k g W) (partT_3 l h W) A3).trans (and_run ?_)
  refine (eqF_cons (by decide) D1 D2 E).trans ?_
  cases decide (g = h)
  · rfl
  · rfl
theorem eq_tok_self (k : Nums) {g : List Int} (hg : g.length = 32) (W : World) : (Op.equalIn 10000 27 (.agg (tcell k g).toArray) (.agg (tcell k g).toArray)).run Try.prog W = .ok true W := by
  rw [eq_tok k k hg hg, eqT_iff.2 ⟨rfl, rfl⟩]

end Go.Proofs.Ytlbbedknldmcpaa
