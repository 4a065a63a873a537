/-
  '==' and '!=' of two arrays of numbers, of whatever length.
-/
import Derived.Test.YtlbbedknldmcpaaBig
import Derived.Laws.StructEq
namespace Go.Proofs.Ytlbbedknldmcpaa
open Go.RowKit

theorem eq_ints {P : Program} (w : World) (d : Nat) {t e : TypeId} {n : Nat} {k : IntKind} (ht : P.underlying t = some (.array n e)) (he : P.underlying e = some (.int k)) (hs : (P.info? e).map (·.size) = some 1)
    (xs ys : List Int) (hx : xs.length = n) (hy : ys.length = n) :
    (Op.equalIn (d + 2) t (.agg (xs.map (Value.int k)).toArray) (.agg (ys.map (Value.int k)).toArray)).run P w = .ok (decide (xs = ys)) w := by
  have hz : (Go.sizeOf e).run P w = .ok 1 w := by
    cases hq : P.info? e with
    | none => simp [hq] at hs
    | some i => simp [hq] at hs; simp [Go.sizeOf, typeInfo, hq, hs]
  have hag : (isAgg e).run P w = .ok false w := by
    unfold isAgg
    rw [Sem.run_bind, run_underlying he w]
    rfl
  rw [show d + 2 = (d + 1) + 1 from rfl, Op.equalIn]
  simp only [Sem.run_bind, run_underlying ht, Result.andThen_ok, hz]
  simp only [Std.Legacy.Range.forIn_eq_forIn_range', Std.Legacy.Range.size, Nat.sub_zero, Nat.add_sub_cancel, Nat.div_one]
  have hpart : ∀ (zs : List Int) (i : Nat) (h : i < zs.length), (part e (zs.map (Value.int k)).toArray (i * 1)).run P w = .ok (.int k zs[i]) w := fun zs i h => by
    unfold part
    simp [Sem.run_bind, hag, h]
  have key : ∀ (m i : Nat), i + m = n → (Sem.run P (forIn (List.range' i m) ((none : Option Bool), ()) fun i (_s : Option Bool × Unit) => do
            let a ← part e (xs.map (Value.int k)).toArray (i * 1)
            let b ← part e (ys.map (Value.int k)).toArray (i * 1)
            let c ← Op.equalIn (d + 1) e a b
            if (!c) = true then pure (ForInStep.done (some false, ())) else pure (ForInStep.yield (none, ()))) w) = .ok (if xs.drop i = ys.drop i then none else some false, ()) w := by
    intro m
    induction m with
    | zero =>
      intro i hi
      rw [List.drop_eq_nil_of_le (by omega), List.drop_eq_nil_of_le (by omega)]
      simp
    | succ m ih =>
      intro i hi
      have h1 : i < xs.length := by omega
      have h2 : i < ys.length := by omega
      rw [List.range'_succ, List.forIn_cons, List.drop_eq_getElem_cons h1, List.drop_eq_getElem_cons h2]
      simp only [Sem.run_bind, hpart xs i h1, hpart ys i h2, Result.andThen_ok, run_equalIn_int w d e k k _ _ he]
      by_cases hq : xs[i] = ys[i]
      · simp only [hq, beq_self_eq_true, Bool.not_true, Bool.false_eq_true, if_false, Sem.run_pure, Result.andThen_ok]
        rw [ih (i + 1) (by omega)]
        simp only [List.cons.injEq, true_and]
      · have hb : (xs[i] == ys[i]) = false := by simpa using hq
        simp only [hb, Bool.not_false, if_true, List.cons.injEq, hq, false_and, if_false, Sem.run_pure, Result.andThen_ok]
  rw [key n 0 (by omega)]
  by_cases hq : xs = ys
  · simp [hq]
  · simp [hq]
theorem eq_same {P : Program} {t e : TypeId} {n : Nat} {k : IntKind} (ht : P.underlying t = some (.array n e)) (he : P.underlying e = some (.int k)) (hs : (P.info? e).map (·.size) = some 1) (xs : List Int) (hx : xs.length = n) (w : World) :
    (Op.equalIn 10000 t (.agg (xs.map (Value.int k)).toArray) (.agg (xs.map (Value.int k)).toArray)).run P w = .ok true w := by
  rw [show (10000 : Nat) = 9998 + 2 from rfl, eq_ints w 9998 ht he hs xs xs hx hx]
  simp

end Go.Proofs.Ytlbbedknldmcpaa
