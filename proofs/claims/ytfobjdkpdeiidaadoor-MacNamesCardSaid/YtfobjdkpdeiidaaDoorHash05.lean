/-
  Walking kit of the statements of layer 5: guarded loads and appends, hashes and digests in boxes, hashes under names.
-/
import Derived.Test.YtfobjdkpdeiidaaDoorShaL
namespace Go.Proofs.YtfobjdkpdeiidaaDoor
open Go.RowKit

section
variable {P : Program} {ops : Array Oper} {rest : List Oper} {o : Oper} {a : Act} {w : World} {K : Act → World → Prop} {Q : Exit → Act → World → Prop} {E : Prop}
theorem wpList_load_boxw (hw : Region.wanted o (yielded ops a.tmps) = true) (ty : TypeId) (x : Operand) (ho : o.op = .load ty x) {b : Nat} {cs : List Value} (hb : Box w b cs) (hx : a.eval x = .pointer (some ⟨b, 0, none⟩)) {d : TypeDesc}
    (hu : P.underlying ty = some d) (hd : d.isRow = true) (hi : (P.info? ty).map (·.size) = some cs.length)
    (h : wpList P ops Q rest (a.put o.dst (.agg cs.toArray)) w) : wpList P ops Q (o :: rest) a w := by
  show if _ then _ else _
  rw [if_pos hw]
  exact .inl (wp_load_mid ty x ho b 0 hx cs d hb.range hu hd hi h)
theorem wpList_append_onto (hw : Region.wanted o (yielded ops a.tmps) = true) (s x : Operand) (t : TypeId)
    (ho : o.op = .call { callee := .builtin .append, args := #[s, x], argTypes := #[t, t] })
    (base : Nat) (e : TypeId) (i : TypeInfo) (z : Value) (bytes : Nat) (k : IntKind) (ht : P.underlying t = some (.slice e)) (hi : P.info? e = some i) (hz : i.zero = some z)
    (hsize : i.size = 1) (hby : i.bytes = bytes) (hzs : z.cells.size = 1)
    (v : Value) (ys xs : List Int) (v2 : Value) (hs : a.eval s = v) (hx : a.eval x = v2) (hown : w.ownsRow base e 1 v ys.length (ys.map (Value.int k))) (hin : IsL w k v2 xs)
    (h63 : ys.length + xs.length ≤ maxLen) (hbytes : (ys.length + xs.length) * bytes ≤ 140737488355328) (hbase : base ≤ w.heap.size)
    (h : ∀ v' w', w'.ownsRow base e 1 v' (ys ++ xs).length ((ys ++ xs).map (Value.int k)) → Below base w w' → wpList P ops Q rest (a.put o.dst v') w') : wpList P ops Q (o :: rest) a w := by
  obtain ⟨a2, c2, rfl, hi2, h02⟩ := hin
  refine wpList_append_ints hw s x t ho base e i z bytes k ht hi hz hsize hby hzs v ys.length _ hs hown a2 c2 xs hx hi2 h02 h63 hbytes hbase (fun v' w' h1 h2 => h v' w' ?_ ?_)
  · rw [List.length_append, List.map_append]
    exact h1
  · exact (Below.refl _ w).grown h2 hbase (own_block hown)
end

theorem info8 : ∃ i, Tryd.prog.info? 5 = some i ∧ i.zero = some (.int .u8 0) ∧ i.size = 1 ∧ i.bytes = 1 := ⟨_, rfl, by kernel_rfl, by kernel_rfl, by kernel_rfl⟩
/-- A digest as a value equals itself. -/
theorem eq_dig (D : List Int) (hl : D.length = 32) (W : World) : (Op.equalIn 10000 31 (dv D) (dv D)).run Tryd.prog W = .ok true W :=
  eq_same Tryd.underlying31 Tryd.underlying5 size_u8 D hl W
theorem eq_words (T : W8) (W : World) : (Op.equalIn 10000 59 (.agg (hv T).toArray) (.agg (hv T).toArray)).run Tryd.prog W = .ok true W :=
  eq_same Tryd.underlying59 Tryd.underlying58 size_u32 [un T.a, un T.b, un T.c, un T.d, un T.e, un T.f, un T.g, un T.z] rfl W
theorem dv_cells (D : List Int) : dv D = .agg (D.map (Value.int .u8)).toArray := rfl

/-- What three parts written one after the other leave, and what they leave at once. -/
theorem three_parts {xs ys zs : List Int} {T1 T2 T3 : W8} {r1 r2 r3 : List Int} (h1 : after first ([] ++ xs) = T1) (k1 : restOf ([] ++ xs) = r1) (h2 : after T1 (r1 ++ ys) = T2) (k2 : restOf (r1 ++ ys) = r2)
    (h3 : after T2 (r2 ++ zs) = T3) (k3 : restOf (r2 ++ zs) = r3) : after first ([] ++ (xs ++ ys ++ zs)) = T3 ∧ restOf ([] ++ (xs ++ ys ++ zs)) = r3 ∧
      r1.length = xs.length % 64 ∧ r2.length = (xs.length + ys.length) % 64 ∧ r3.length = (xs.length + ys.length + zs.length) % 64 := by
  rw [List.nil_append] at *
  have a2 : after first (xs ++ ys) = T2 := by rw [after_append, h1, k1, h2]
  have b2 : restOf (xs ++ ys) = r2 := by rw [restOf_append, k1, k2]
  have a3 : after first (xs ++ ys ++ zs) = T3 := by rw [after_append, a2, b2, h3]
  have b3 : restOf (xs ++ ys ++ zs) = r3 := by rw [restOf_append, b2, k3]
  refine ⟨a3, b3, by rw [← k1, restOf_len], by rw [← b2, restOf_len, List.length_append], by rw [← b3, restOf_len, List.length_append, List.length_append]⟩

end Go.Proofs.YtfobjdkpdeiidaaDoor
