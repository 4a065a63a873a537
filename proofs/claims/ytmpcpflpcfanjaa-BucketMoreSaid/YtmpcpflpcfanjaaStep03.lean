/-
  A whole bucket loaded or stored, as one step of a region that draws its order.
-/
import Derived.Test.YtmpcpflpcfanjaaRef03F
import Derived.BigRegion
namespace Go.Proofs.Ytmpcpflpcfanjaa
open Go.RowKit

section
variable {ops : Array Oper} {o : Oper} {a : Act} {w : World} {K : Act → World → Prop} {Q : Exit → Act → World → Prop} {E : Prop}
set_option maxRecDepth 100000 in
set_option maxHeartbeats 800000 in
theorem step_load6 (hg : o.guard = none) (p : Operand) (hop : o.op = .load 26 p) {b : Nat} (hp : a.eval p = .pointer (some ⟨b, 0, none⟩)) {u0 u1 u2 u3 u4 u5 : Value} (hb : Box w b [u0, u1, u2, u3, u4, u5])
    (hK : K (a.put o.dst (.agg #[u0, u1, u2, u3, u4, u5])) w) :
    if Region.wanted o (yielded ops a.tmps) = true then Oper.wp Try.prog o a w K Q else E := by
  have hw : Region.wanted o (yielded ops a.tmps) = true := by simp [Region.wanted, hg]
  rw [if_pos hw]
  have c0 := hb.c 0 _ rfl
  have c1 := hb.c 1 _ rfl
  have c2 := hb.c 2 _ rfl
  have c3 := hb.c 3 _ rfl
  have c4 := hb.c 4 _ rfl
  have c5 := hb.c 5 _ rfl
  unfold Oper.wp
  simp only [execOp, hop, hp]
  generalize hq : a.put o.dst (.agg #[u0, u1, u2, u3, u4, u5]) = a9 at hK
  simp [go_sem, c0, c1, c2, c3, c4, c5, Result.andThen]
  first | exact hK | (rw [← hq] at hK; exact hK)
set_option maxRecDepth 100000 in
set_option maxHeartbeats 1600000 in
theorem step_store6 (hg : o.guard = none) (p x : Operand) (hop : o.op = .store 26 p x) (hd : o.dst = none) {b : Nat} (hp : a.eval p = .pointer (some ⟨b, 0, none⟩)) {u0 u1 u2 u3 u4 u5 v0 v1 v2 v3 v4 v5 : Int} {U : List Value}
    (hx : a.eval x = .agg #[.int .i64 v0, .int .i64 v1, .int .i64 v2, .int .i64 v3, .int .i64 v4, .int .u64 v5]) (hU : U = [.int .i64 u0, .int .i64 u1, .int .i64 u2, .int .i64 u3, .int .i64 u4, .int .u64 u5]) (hb : Box w b U)
    (hK : ∀ W, Box W b [.int .i64 v0, .int .i64 v1, .int .i64 v2, .int .i64 v3, .int .i64 v4, .int .u64 v5] → (∀ c vs, b ≠ c → Box w c vs → Box W c vs) → (∀ W0 : World, W0.heap.size ≤ b → Below W0.heap.size W0 w → Below W0.heap.size W0 W) → K a W) :
    if Region.wanted o (yielded ops a.tmps) = true then Oper.wp Try.prog o a w K Q else E := by
  have hw : Region.wanted o (yielded ops a.tmps) = true := by simp [Region.wanted, hg]
  rw [if_pos hw]
  subst hU
  have k := hK _ (put6 hb _ _ _ _ _ _) (fun c vs hc h => other6 h hc _ _ _ _ _ _) (fun W0 h0 h => below6b h0 h _ _ _ _ _ _)
  have z := hb.lt
  have c0 := hb.c 0 _ rfl
  have c1 := hb.c 1 _ rfl
  have c2 := hb.c 2 _ rfl
  have c3 := hb.c 3 _ rfl
  have c4 := hb.c 4 _ rfl
  have c5 := hb.c 5 _ rfl
  have f0 := hb.f 0 _ rfl
  have f1 := hb.f 1 _ rfl
  have f2 := hb.f 2 _ rfl
  have f3 := hb.f 3 _ rfl
  have f4 := hb.f 4 _ rfl
  have f5 := hb.f 5 _ rfl
  unfold Oper.wp
  simp only [execOp, hop, hp, hx]
  simp [hd, go_sem, c0, c1, c2, c3, c4, c5, f0, f1, f2, f3, f4, f5, Result.andThen]
  exact k
end

end Go.Proofs.Ytmpcpflpcfanjaa
