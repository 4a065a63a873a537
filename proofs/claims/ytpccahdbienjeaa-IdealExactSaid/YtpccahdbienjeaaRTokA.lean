/-
  Token's reference: its messages.
-/
import Derived.Test.YtpccahdbienjeaaGQ4
import Derived.Test.YtpccahdbienjeaaGQ3
namespace Go.Proofs.Ytpccahdbienjeaa
open Go.RowKit

theorem Box.keepR {w w' : World} {b B : Nat} {vs : List Value} (h : Box w b vs) (hb : Below B w w') (hB : b < B) : Box w' b vs := by
  have hh := hb.block b hB
  exact ⟨fun i v e => by have := h.c i v e; simpa [World.cell?, hh] using this, fun i v e => by have := h.f i v e; simpa [World.frozen?, hh] using this, Nat.lt_of_lt_of_le h.lt hb.size⟩
theorem Box.upR {w w' : World} {b B : Nat} {vs : List Value} (h : Box w b vs) (hb : Below B w w') (hB : b < B) : Box w' b vs ∧ b < w'.heap.size := ⟨h.keepR hb hB, (h.keepR hb hB).lt⟩
theorem step_append_ints {P : Program} {w : World} {ops : Array Oper} {o : Oper} {a : Act} {K : Act → World → Prop} {Q : Exit → Act → World → Prop} {E : Prop} (d : Nat) (hd : o.dst = some d) (hgd : o.guard = none) (s x : Operand) (t : TypeId)
    (ho : o.op = .call { callee := .builtin .append, args := #[s, x], argTypes := #[t, t] })
    (base : Nat) (e : TypeId) (i : TypeInfo) (z : Value) (bytes : Nat) (k : IntKind) (ht : P.underlying t = some (.slice e)) (hi : P.info? e = some i) (hz : i.zero = some z)
    (hsize : i.size = 1) (hby : i.bytes = bytes) (hzs : z.cells.size = 1)
    (v : Value) (n : Nat) (l : List Value) (hs : a.eval s = v) (hown : w.ownsRow base e 1 v n l)
    (v2 : Value) (xs : List Int) (hx : a.eval x = v2) (hin : IsL w k v2 xs)
    (h63 : n + xs.length ≤ maxLen) (hbytes : (n + xs.length) * bytes ≤ 140737488355328) (hbase : base ≤ w.heap.size)
    (h : ∀ v' w', w'.ownsRow base e 1 v' (n + xs.length) (l ++ xs.map (Value.int k)) → Below base w w' → K (a.put (some d) v') w') : if Region.wanted o (yielded ops a.tmps) = true then Oper.wp P o a w K Q else E := by
  rw [if_pos (by simp [Region.wanted, hgd])]
  obtain ⟨at0, cap, rfl, h2, h0⟩ := hin
  exact wp_append_ints s x t ho base e i z bytes k ht hi hz hsize hby hzs v n l hs hown at0 cap xs hx h2 h0 h63 hbytes hbase fun v' w' h1 h2 => by rw [hd]; exact h v' w' h1 ((Below.refl _ w).grown h2 hbase (own_block hown))

end Go.Proofs.Ytpccahdbienjeaa
