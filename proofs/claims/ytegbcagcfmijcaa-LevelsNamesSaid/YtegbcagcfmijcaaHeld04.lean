/-
  Helpers for regions that draw their order in a great frame: an operation taken first, a call, a slice made, a world that has grown, a slot written.
-/
import Derived.Test.YtegbcagcfmijcaaKit
import Derived.Deep.RegionHeld
namespace Go.Proofs.Ytegbcagcfmijcaa
open Go.RowKit

theorem F_world {F J : World → Prop} {w w' : World} (hj : J w') (hb : Below w.heap.size w w') (h : ∀ W, J W → Below w.heap.size w W → F W) : F w' := h _ hj hb
theorem takeH {P : Program} {md : Region.Mode} {ops : Array Oper} {Q : Exit → Act → World → Prop} {S : World → Prop} (i d : Nat) {oi : Oper} {v : Value} {fuel : Nat} {listed : Array Bool} {a : Act} {w : World} (hi : ops[i]? = some oi) (hd : oi.dst = some d)
    (hs : Region.noSelect ops = true) (hf : Region.free md ops listed i = true) (hr : (Region.ready md ops listed).contains i = true)
    (hQ : ∀ c a w, Q (.panic c) (a.put oi.dst v) w → Q (.panic c) a w) (hy : YieldsIf P ops S oi v a) (hS : S w)
    (h : wpAnyH P md ops Q S fuel (listed.setIfInBounds i true) (a.put (some d) v) w) : wpAnyH P md ops Q S (fuel + 1) listed a w :=
  wpAnyH_take hi hs hf hr hQ hy hS (by rw [hd]; exact h)
theorem put_lit (l : List Value) (ds : List Deferred) (d : Nat) (v : Value) : ({ tmps := l.toArray, defers := ds } : Act).put (some d) v = { tmps := (l.set d v).toArray, defers := ds } := by
  simp [Act.put]
section
variable {P : Program} {ops : Array Oper} {o : Oper} {a : Act} {w : World} {K : Act → World → Prop} {Q : Exit → Act → World → Prop} {E : Prop}
theorem step_callH (d : Nat) (hd : o.dst = some d) (hgd : o.guard = none) (f : FuncId) (xs : List Operand) (ts : Array TypeId) (ho : o.op = .call { callee := .value (.func f), args := xs.toArray, argTypes := ts }) (vals : List Value) (hv : xs.map a.eval = vals) (hc : (callFunc f (#[] ++ vals.toArray ++ #[])).run P w = .ok (.enter f vals.toArray) w)
    (h : Calls P f vals.toArray w fun e w' => ∃ v, e = .returned v ∧ K (a.put (some d) v) w') : if Region.wanted o (yielded ops a.tmps) = true then Oper.wp P o a w K Q else E := by
  rw [if_pos (by simp [Region.wanted, hgd])]
  unfold Oper.wp execOp
  simp only [ho, resolve, Sem.run_bind, Sem.run_pure, Result.andThen_ok, List.map_toArray, hv, Act.eval, Deferred.ofValue, invoke, go_sem]
  rw [hc]
  unfold Oper.upon
  rw [hd]
  refine h.mono ?_
  rintro e w' ⟨v, rfl, hk⟩
  exact hk
/-- A slice of one literal number. -/
theorem step_oneH (d : Nat) (hd : o.dst = some d) (hgd : o.guard = none) (t : TypeId) (n : Nat) (x : Value) (ho : o.op = .buildSlice t n #[(0, .const x)]) {v : Value} {w' : World} (hr : (Instr.buildSlice t n #[(0, x)]).run P w = .ok v w')
    (h : K (a.put (some d) v) w') : if Region.wanted o (yielded ops a.tmps) = true then Oper.wp P o a w K Q else E := by
  rw [if_pos (by simp [Region.wanted, hgd])]
  unfold Oper.wp execOp
  simp only [ho, List.map_toArray, List.map, Act.eval, Sem.run_bind, hr, Sem.run_pure, Result.andThen_ok]
  unfold Oper.upon
  rw [hd]
  exact h
theorem step_makeH (d : Nat) (hd : o.dst = some d) (hgd : o.guard = none) (t : TypeId) (x y : Value) (ho : o.op = .makeSlice t (.const x) (.const y)) {v : Value} {w' : World} (hr : (Instr.makeSlice t x y).run P w = .ok v w')
    (h : K (a.put (some d) v) w') : if Region.wanted o (yielded ops a.tmps) = true then Oper.wp P o a w K Q else E := by
  rw [if_pos (by simp [Region.wanted, hgd])]
  unfold Oper.wp execOp
  simp only [ho, Act.eval, Sem.run_bind, hr, Sem.run_pure, Result.andThen_ok]
  unfold Oper.upon
  rw [hd]
  exact h
end

end Go.Proofs.Ytegbcagcfmijcaa
