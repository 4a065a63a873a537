/-
  The reference of layer 5: valid hashes, Pad, Block, Of, Sum, Start; and what both answer, in one form.
-/
import Derived.Test.YtfobjdkpdeiidaaDoorRf05C
namespace Go.Proofs.YtfobjdkpdeiidaaDoor
open Go.RowKit

/-- What Pad answers. -/
def padOut (n : Int) : List Int × Int := if cntB n = true then (padL n.toNat, 0) else ([], 2)
/-- What Block answers. -/
def blockOut (T : W8) (xs : List Int) : W8 × Int := if xs.length = 64 then (taken T xs, 0) else (zeroW, 2)
theorem rdigest_is {h : W8} {D : List Int} (w : World) (hD : Hid (dig h = D)) : Calls Tryd.prog 35 #[.agg (hv h).toArray] w fun e w' => e = .returned (dv D) ∧ Below w.heap.size w w' := by
  rw [← hD.out]; exact rdigest_any h w
theorem rafter_is {T0 T : W8} {v : Value} {xs : List Int} (w : World) (q0 : xs.length ≤ 1000000) (hT : Hid (after T0 xs = T)) (i0 : Hid (IsL w .u8 v xs)) (b0 : Hid (bytesL xs)) :
    Calls Tryd.prog 36 #[.agg (hv T0).toArray, v] w fun e w' => e = .returned (.agg (hv T).toArray) ∧ Below w.heap.size w w' := by
  obtain ⟨a0, c0, rfl, hi, h0⟩ := id i0.out
  exact rafter_any w q0 hT i0 b0
theorem build_hash0 (T : W8) (w : World) : (Instr.build 61 #[(0, .agg (hv T).toArray)]).run Tryd.prog w = .ok (.agg (hashV T (.slice none 0 0) 0).toArray) w := by kernel_rfl
theorem wpList_build_hash0 {ops : Array Oper} {rest : List Oper} {o : Oper} {a : Act} {w : World} {Q : Exit → Act → World → Prop} (hgd : o.guard = none) (x : Operand) (ho : o.op = .build 61 #[(0, x)]) (T : W8)
    (hx : a.eval x = .agg (hv T).toArray)
    (h : wpList Tryd.prog ops Q rest (a.put o.dst (.agg (hashV T (.slice none 0 0) 0).toArray)) w) : wpList Tryd.prog ops Q (o :: rest) a w :=
  wpList_plain hgd fun kb hK => by
    have hb := build_hash0 T w
    have hK2 := hK _ _ h
    generalize hashV T (.slice none 0 0) 0 = L at *
    unfold Oper.wp execOp
    simp only [ho, List.map_toArray, List.map, hx, Sem.run_bind, hb, Result.andThen_ok, Sem.run_pure]
    exact hK2
end Go.Proofs.YtfobjdkpdeiidaaDoor
