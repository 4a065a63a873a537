/-
  The reference of layer 9, walked: Message.
-/
import Derived.Test.YtofjpeplgagihaaDoorGXR
import Derived.Test.YtofjpeplgagihaaDoorGX1
import Derived.Test.YtofjpeplgagihaaDoorGRT

namespace Go.Proofs.YtofjpeplgagihaaDoor
open Go.RowKit

theorem Ty.setCell {w : World} {b : Nat} {T : TypeId} (h : Ty w b T) (a : Addr) (v : Value) : Ty (w.setCell a v) b T := by
  obtain ⟨cs, fr, h⟩ := h
  by_cases q : b = a.block
  · refine ⟨if a.spot.isSome then cs else cs.setIfInBounds a.off v, fr, ?_⟩
    simp [World.setCell, Array.getElem?_modify, ← q, h]
  · exact ⟨cs, fr, by rw [heap_setCell_other w a b v q]; exact h⟩
theorem Ty.setCells {b : Nat} {T : TypeId} (g : Nat) : ∀ (vs : List Value) (o : Nat) (w : World), Ty w b T → Ty (w.setCells g o vs) b T
  | [], _, _, h => h
  | v :: vs, o, _, h => Ty.setCells g vs (o + 1) _ (h.setCell ⟨g, o, none⟩ v)
theorem wpList_store_boxT {P : Program} {ops : Array Oper} {rest : List Oper} {o : Oper} {a : Act} {w : World} {Q : Exit → Act → World → Prop} (hgd : o.guard = none) (ty : TypeId) (x y : Operand) (ho : o.op = .store ty x y) {b : Nat} {us cs : List Value} (hb : Box w b us) (hx : a.eval x = .pointer (some ⟨b, 0, none⟩)) (hy : a.eval y = .agg cs.toArray)
    (hi : (P.info? ty).map (·.size) = some cs.length) (hl : us.length = cs.length) (h1 : cs.toArray.all (·.oneCell') = true)
    (h : ∀ W, Stored w b cs W → (∀ T, Ty w b T → Ty W b T) → wpList P ops Q rest (a.put o.dst undef) W) : wpList P ops Q (o :: rest) a w :=
  wpList_store_mid hgd ty x y ho b 0 cs.toArray hx hy (by have := hb.there; rw [hl] at this; simpa using this) (by simpa using hi) h1 (h _ (Stored.mk' hb hl) (fun T hT => Ty.setCells b _ _ _ hT))
theorem step_append_intsG {P : Program} {w : World} {ops : Array Oper} {o : Oper} {a : Act} {K : Act → World → Prop} {Q : Exit → Act → World → Prop} {E : Prop} (d : Nat) (hd : o.dst = some d) (hgd : o.guard = none) (s x : Operand) (t : TypeId)
    (ho : o.op = .call { callee := .builtin .append, args := #[s, x], argTypes := #[t, t] })
    (base : Nat) (e : TypeId) (i : TypeInfo) (z : Value) (bytes : Nat) (k : IntKind) (ht : P.underlying t = some (.slice e)) (hi : P.info? e = some i) (hz : i.zero = some z)
    (hsize : i.size = 1) (hby : i.bytes = bytes) (hzs : z.cells.size = 1)
    (v : Value) (n : Nat) (l : List Value) (hs : a.eval s = v) (hown : w.ownsRow base e 1 v n l)
    (v2 : Value) (xs : List Int) (hx : a.eval x = v2) (hin : IsL w k v2 xs)
    (h63 : n + xs.length ≤ maxLen) (hbytes : (n + xs.length) * bytes ≤ 140737488355328) (hbase : base ≤ w.heap.size)
    (h : ∀ v' w', w'.ownsRow base e 1 v' (n + xs.length) (l ++ xs.map (Value.int k)) → w.grownBy w' v.ownBlock → K (a.put (some d) v') w') : if Region.wanted o (yielded ops a.tmps) = true then Oper.wp P o a w K Q else E := by
  rw [if_pos (by simp [Region.wanted, hgd])]
  obtain ⟨at0, cap, rfl, h2, h0⟩ := hin
  exact wp_append_ints s x t ho base e i z bytes k ht hi hz hsize hby hzs v n l hs hown at0 cap xs hx h2 h0 h63 hbytes hbase fun v' w' h1 h2 => by rw [hd]; exact h v' w' h1 h2

set_option maxRecDepth 100000 in
set_option maxHeartbeats 12800000 in
theorem rmsg9_is (c : Cmd) (hw : c.wd) (w : World) : Calls Tryd.prog 54 #[.agg (ccell c).toArray] w (GivesOwn c.msg w) := by
  obtain ⟨ti, hin, hz0, hz1, hz2⟩ := info_parts info_u8'
  have SV := Lib.hid (size_cmd c)
  have SL0 := Lib.hid (size_lim c.l0); have OL0 := Lib.hid (one_lim c.l0); have LL0 := Lib.hid (show Lm.zero.v.length = c.l0.v.length from rfl)
  have DL0 : Hid ((ccell c).drop 3 = c.l0.v ++ (ccell c).drop 6) := Lib.hid rfl
  have m00 : c.l0.v[0]? = some (.int .i64 c.l0.b) := rfl; have m01 : c.l0.v[1]? = some (.int .i64 c.l0.r) := rfl; have m02 : c.l0.v[2]? = some (.int .i64 c.l0.p) := rfl
  have SL1 := Lib.hid (size_lim c.l1); have OL1 := Lib.hid (one_lim c.l1); have LL1 := Lib.hid (show Lm.zero.v.length = c.l1.v.length from rfl)
  have DL1 : Hid ((ccell c).drop 6 = c.l1.v ++ (ccell c).drop 9) := Lib.hid rfl
  have m10 : c.l1.v[0]? = some (.int .i64 c.l1.b) := rfl; have m11 : c.l1.v[1]? = some (.int .i64 c.l1.r) := rfl; have m12 : c.l1.v[2]? = some (.int .i64 c.l1.p) := rfl
  have SL2 := Lib.hid (size_lim c.l2); have OL2 := Lib.hid (one_lim c.l2); have LL2 := Lib.hid (show Lm.zero.v.length = c.l2.v.length from rfl)
  have DL2 : Hid ((ccell c).drop 9 = c.l2.v ++ (ccell c).drop 12) := Lib.hid rfl
  have m20 : c.l2.v[0]? = some (.int .i64 c.l2.b) := rfl; have m21 : c.l2.v[1]? = some (.int .i64 c.l2.r) := rfl; have m22 : c.l2.v[2]? = some (.int .i64 c.l2.p) := rfl
  have hn_t := c.ht
  have wn_t : IntKind.u64.wrap c.t = c.t := by rw [IntKind.wrap_u64]; omega
  have CB_t := fun W => rbytes_own c.t 4 W hn_t.1 (by omega) (by omega)
  have LB_t := Lib.hid (be_len 4 c.t)
  clear hn_t
  have hn_u := c.hu
  have wn_u : IntKind.u64.wrap c.u = c.u := by rw [IntKind.wrap_u64]; omega
  have CB_u := fun W => rbytes_own c.u 4 W hn_u.1 (by omega) (by omega)
  have LB_u := Lib.hid (be_len 4 c.u)
  clear hn_u
  have hn_l0b := hw.1.1
  have wn_l0b : IntKind.u64.wrap c.l0.b = c.l0.b := by rw [IntKind.wrap_u64]; omega
  have CB_l0b := fun W => rbytes_own c.l0.b 4 W hn_l0b.1 (by omega) (by omega)
  have LB_l0b := Lib.hid (be_len 4 c.l0.b)
  clear hn_l0b
  have hn_l0r := hw.1.2.1
  have wn_l0r : IntKind.u64.wrap c.l0.r = c.l0.r := by rw [IntKind.wrap_u64]; omega
  have CB_l0r := fun W => rbytes_own c.l0.r 4 W hn_l0r.1 (by omega) (by omega)
  have LB_l0r := Lib.hid (be_len 4 c.l0.r)
  clear hn_l0r
  have hn_l0p := hw.1.2.2
  have wn_l0p : IntKind.u64.wrap c.l0.p = c.l0.p := by rw [IntKind.wrap_u64]; omega
  have CB_l0p := fun W => rbytes_own c.l0.p 4 W hn_l0p.1 (by omega) (by omega)
  have LB_l0p := Lib.hid (be_len 4 c.l0.p)
  clear hn_l0p
  have hn_l1b := hw.2.1.1
  have wn_l1b : IntKind.u64.wrap c.l1.b = c.l1.b := by rw [IntKind.wrap_u64]; omega
  have CB_l1b := fun W => rbytes_own c.l1.b 4 W hn_l1b.1 (by omega) (by omega)
  have LB_l1b := Lib.hid (be_len 4 c.l1.b)
  clear hn_l1b
  have hn_l1r := hw.2.1.2.1
  have wn_l1r : IntKind.u64.wrap c.l1.r = c.l1.r := by rw [IntKind.wrap_u64]; omega
  have CB_l1r := fun W => rbytes_own c.l1.r 4 W hn_l1r.1 (by omega) (by omega)
  have LB_l1r := Lib.hid (be_len 4 c.l1.r)
  clear hn_l1r
  have hn_l1p := hw.2.1.2.2
  have wn_l1p : IntKind.u64.wrap c.l1.p = c.l1.p := by rw [IntKind.wrap_u64]; omega
  have CB_l1p := fun W => rbytes_own c.l1.p 4 W hn_l1p.1 (by omega) (by omega)
  have LB_l1p := Lib.hid (be_len 4 c.l1.p)
  clear hn_l1p
  have hn_l2b := hw.2.2.1
  have wn_l2b : IntKind.u64.wrap c.l2.b = c.l2.b := by rw [IntKind.wrap_u64]; omega
  have CB_l2b := fun W => rbytes_own c.l2.b 4 W hn_l2b.1 (by omega) (by omega)
  have LB_l2b := Lib.hid (be_len 4 c.l2.b)
  clear hn_l2b
  have hn_l2r := hw.2.2.2.1
  have wn_l2r : IntKind.u64.wrap c.l2.r = c.l2.r := by rw [IntKind.wrap_u64]; omega
  have CB_l2r := fun W => rbytes_own c.l2.r 4 W hn_l2r.1 (by omega) (by omega)
  have LB_l2r := Lib.hid (be_len 4 c.l2.r)
  clear hn_l2r
  have hn_l2p := hw.2.2.2.2
  have wn_l2p : IntKind.u64.wrap c.l2.p = c.l2.p := by rw [IntKind.wrap_u64]; omega
  have CB_l2p := fun W => rbytes_own c.l2.p 4 W hn_l2p.1 (by omega) (by omega)
  have LB_l2p := Lib.hid (be_len 4 c.l2.p)
  clear hn_l2p
  have hn_x := c.hx
  have CB_x := fun W => rbytes_own c.x 8 W hn_x.1 (by omega) (by omega)
  have LB_x := Lib.hid (be_len 8 c.x)
  clear hn_x
  obtain ⟨Q0, hQ0⟩ : ∃ Q, ([2, c.op] : List Int) = Q := ⟨_, rfl⟩
  obtain ⟨T_t, hT_t⟩ : ∃ T, (be 4 c.t : List Int) = T := ⟨_, rfl⟩
  rw [hT_t] at CB_t LB_t
  obtain ⟨Q1, hQ1⟩ : ∃ Q, Q0 ++ T_t = Q := ⟨_, rfl⟩
  have HQ1 : Hid (Q0.map (Value.int .u8) ++ T_t.map (Value.int .u8) = Q1.map (Value.int .u8)) := Lib.hid (by rw [← hQ1, List.map_append])
  obtain ⟨T_u, hT_u⟩ : ∃ T, (be 4 c.u : List Int) = T := ⟨_, rfl⟩
  rw [hT_u] at CB_u LB_u
  obtain ⟨Q2, hQ2⟩ : ∃ Q, Q1 ++ T_u = Q := ⟨_, rfl⟩
  have HQ2 : Hid (Q1.map (Value.int .u8) ++ T_u.map (Value.int .u8) = Q2.map (Value.int .u8)) := Lib.hid (by rw [← hQ2, List.map_append])
  obtain ⟨T_l0b, hT_l0b⟩ : ∃ T, (be 4 c.l0.b : List Int) = T := ⟨_, rfl⟩
  rw [hT_l0b] at CB_l0b LB_l0b
  obtain ⟨Q3, hQ3⟩ : ∃ Q, Q2 ++ T_l0b = Q := ⟨_, rfl⟩
  have HQ3 : Hid (Q2.map (Value.int .u8) ++ T_l0b.map (Value.int .u8) = Q3.map (Value.int .u8)) := Lib.hid (by rw [← hQ3, List.map_append])
  obtain ⟨T_l0r, hT_l0r⟩ : ∃ T, (be 4 c.l0.r : List Int) = T := ⟨_, rfl⟩
  rw [hT_l0r] at CB_l0r LB_l0r
  obtain ⟨Q4, hQ4⟩ : ∃ Q, Q3 ++ T_l0r = Q := ⟨_, rfl⟩
  have HQ4 : Hid (Q3.map (Value.int .u8) ++ T_l0r.map (Value.int .u8) = Q4.map (Value.int .u8)) := Lib.hid (by rw [← hQ4, List.map_append])
  obtain ⟨T_l0p, hT_l0p⟩ : ∃ T, (be 4 c.l0.p : List Int) = T := ⟨_, rfl⟩
  rw [hT_l0p] at CB_l0p LB_l0p
  obtain ⟨Q5, hQ5⟩ : ∃ Q, Q4 ++ T_l0p = Q := ⟨_, rfl⟩
  have HQ5 : Hid (Q4.map (Value.int .u8) ++ T_l0p.map (Value.int .u8) = Q5.map (Value.int .u8)) := Lib.hid (by rw [← hQ5, List.map_append])
  obtain ⟨T_l1b, hT_l1b⟩ : ∃ T, (be 4 c.l1.b : List Int) = T := ⟨_, rfl⟩
  rw [hT_l1b] at CB_l1b LB_l1b
  obtain ⟨Q6, hQ6⟩ : ∃ Q, Q5 ++ T_l1b = Q := ⟨_, rfl⟩
  have HQ6 : Hid (Q5.map (Value.int .u8) ++ T_l1b.map (Value.int .u8) = Q6.map (Value.int .u8)) := Lib.hid (by rw [← hQ6, List.map_append])
  obtain ⟨T_l1r, hT_l1r⟩ : ∃ T, (be 4 c.l1.r : List Int) = T := ⟨_, rfl⟩
  rw [hT_l1r] at CB_l1r LB_l1r
  obtain ⟨Q7, hQ7⟩ : ∃ Q, Q6 ++ T_l1r = Q := ⟨_, rfl⟩
  have HQ7 : Hid (Q6.map (Value.int .u8) ++ T_l1r.map (Value.int .u8) = Q7.map (Value.int .u8)) := Lib.hid (by rw [← hQ7, List.map_append])
  obtain ⟨T_l1p, hT_l1p⟩ : ∃ T, (be 4 c.l1.p : List Int) = T := ⟨_, rfl⟩
  rw [hT_l1p] at CB_l1p LB_l1p
  obtain ⟨Q8, hQ8⟩ : ∃ Q, Q7 ++ T_l1p = Q := ⟨_, rfl⟩
  have HQ8 : Hid (Q7.map (Value.int .u8) ++ T_l1p.map (Value.int .u8) = Q8.map (Value.int .u8)) := Lib.hid (by rw [← hQ8, List.map_append])
  obtain ⟨T_l2b, hT_l2b⟩ : ∃ T, (be 4 c.l2.b : List Int) = T := ⟨_, rfl⟩
  rw [hT_l2b] at CB_l2b LB_l2b
  obtain ⟨Q9, hQ9⟩ : ∃ Q, Q8 ++ T_l2b = Q := ⟨_, rfl⟩
  have HQ9 : Hid (Q8.map (Value.int .u8) ++ T_l2b.map (Value.int .u8) = Q9.map (Value.int .u8)) := Lib.hid (by rw [← hQ9, List.map_append])
  obtain ⟨T_l2r, hT_l2r⟩ : ∃ T, (be 4 c.l2.r : List Int) = T := ⟨_, rfl⟩
  rw [hT_l2r] at CB_l2r LB_l2r
  obtain ⟨Q10, hQ10⟩ : ∃ Q, Q9 ++ T_l2r = Q := ⟨_, rfl⟩
  have HQ10 : Hid (Q9.map (Value.int .u8) ++ T_l2r.map (Value.int .u8) = Q10.map (Value.int .u8)) := Lib.hid (by rw [← hQ10, List.map_append])
  obtain ⟨T_l2p, hT_l2p⟩ : ∃ T, (be 4 c.l2.p : List Int) = T := ⟨_, rfl⟩
  rw [hT_l2p] at CB_l2p LB_l2p
  obtain ⟨Q11, hQ11⟩ : ∃ Q, Q10 ++ T_l2p = Q := ⟨_, rfl⟩
  have HQ11 : Hid (Q10.map (Value.int .u8) ++ T_l2p.map (Value.int .u8) = Q11.map (Value.int .u8)) := Lib.hid (by rw [← hQ11, List.map_append])
  obtain ⟨T_ue, hT_ue⟩ : ∃ T, ([c.us, c.en] : List Int) = T := ⟨_, rfl⟩
  have LB_ue : Hid (T_ue.length = 2) := Lib.hid (by rw [← hT_ue]; rfl)
  obtain ⟨Q12, hQ12⟩ : ∃ Q, Q11 ++ T_ue = Q := ⟨_, rfl⟩
  have HQ12 : Hid (Q11.map (Value.int .u8) ++ T_ue.map (Value.int .u8) = Q12.map (Value.int .u8)) := Lib.hid (by rw [← hQ12, List.map_append])
  obtain ⟨T_x, hT_x⟩ : ∃ T, (be 8 c.x : List Int) = T := ⟨_, rfl⟩
  rw [hT_x] at CB_x LB_x
  obtain ⟨Q13, hQ13⟩ : ∃ Q, Q12 ++ T_x = Q := ⟨_, rfl⟩
  have HQ13 : Hid (Q12.map (Value.int .u8) ++ T_x.map (Value.int .u8) = Q13.map (Value.int .u8)) := Lib.hid (by rw [← hQ13, List.map_append])
  have HM : c.msg = Q13 := by
    have hop := c.hop; have hus := c.hus; have hen := c.hen
    have b1 : ∀ n : Int, 0 ≤ n ∧ n ≤ 255 → be 1 n = [n] := fun n h => by unfold be be; simp; omega
    unfold Cmd.msg wsC Cmd.ns
    simp only [beL, b1 2 (by decide), b1 _ hop, b1 _ hus, b1 _ hen]
    rw [← hQ13, ← hQ12, ← hQ11, ← hQ10, ← hQ9, ← hQ8, ← hQ7, ← hQ6, ← hQ5, ← hQ4, ← hQ3, ← hQ2, ← hQ1, ← hQ0, ← hT_t, ← hT_u, ← hT_l0b, ← hT_l0r, ← hT_l0p, ← hT_l1b, ← hT_l1r, ← hT_l1p, ← hT_l2b, ← hT_l2r, ← hT_l2p, ← hT_ue, ← hT_x]
    simp
  have HQ0 : Hid ([Value.int .u8 2, .int .u8 c.op] = Q0.map (Value.int .u8)) := Lib.hid (by rw [← hQ0]; rfl)
  have HUE : Hid (T_ue = [c.us, c.en]) := Lib.hid hT_ue.symm
  have ML : Hid (Q13.length = 56) := Lib.hid (by rw [← HM]; exact Cmd.msg_len hw)
  rw [HM]
  clear HM hw hQ0 hQ1 hQ2 hQ3 hQ4 hQ5 hQ6 hQ7 hQ8 hQ9 hQ10 hQ11 hQ12 hQ13 hT_t hT_u hT_l0b hT_l0r hT_l0p hT_l1b hT_l1r hT_l1p hT_l2b hT_l2r hT_l2p hT_ue hT_x
  obtain ⟨V, hV⟩ : ∃ V, ccell c = V := ⟨_, rfl⟩
  have v0 : V[0]? = some (.int .u8 c.op) := by rw [← hV]; rfl
  have v1 : V[1]? = some (.int .u32 c.t) := by rw [← hV]; rfl
  have v2 : V[2]? = some (.int .u32 c.u) := by rw [← hV]; rfl
  have v12 : V[12]? = some (.int .u8 c.us) := by rw [← hV]; rfl
  have v13 : V[13]? = some (.int .u8 c.en) := by rw [← hV]; rfl
  have v14 : V[14]? = some (.int .u64 c.x) := by rw [← hV]; rfl
  rw [hV] at SV DL0 DL1 DL2 ⊢
  obtain ⟨M0, hM0⟩ : ∃ V, c.l0.v = V := ⟨_, rfl⟩
  obtain ⟨N0, hN0⟩ : ∃ T, V.drop 6 = T := ⟨_, rfl⟩
  rw [hM0] at SL0 OL0 LL0 DL0 m00 m01 m02
  rw [hN0] at DL0
  obtain ⟨M1, hM1⟩ : ∃ V, c.l1.v = V := ⟨_, rfl⟩
  obtain ⟨N1, hN1⟩ : ∃ T, V.drop 9 = T := ⟨_, rfl⟩
  rw [hM1] at SL1 OL1 LL1 DL1 m10 m11 m12
  rw [hN1] at DL1
  obtain ⟨M2, hM2⟩ : ∃ V, c.l2.v = V := ⟨_, rfl⟩
  obtain ⟨N2, hN2⟩ : ∃ T, V.drop 12 = T := ⟨_, rfl⟩
  rw [hM2] at SL2 OL2 LL2 DL2 m20 m21 m22
  rw [hN2] at DL2
  clear hV hM0 hM1 hM2 hN0 hN1 hN2
  go_enter Tryd.func54, Tryd.ntmps54
  go_upto_region 1 with fail
  refine F_gen (F := fun W => Code.wp _ _ _ _ W) (J := fun W => Box W (w.heap.size) (V) ∧ Below w.heap.size w W) (And.intro (Box.newc rfl rfl) (by go_grown)) ?_
  intro w0 ⟨e_c, hB0⟩
  have hs0 := hB0.size
  have x_c0 := e_c; clear e_c
  have ca := (x_c0).c 0 _ v0
  have za := (x_c0).lt
  go_upto_region 2 with fail
  clear ca za
  have zz := (x_c0).lt
  refine F_gen (F := fun W => Code.wp _ _ _ _ W) (J := fun W => Box W (w.heap.size) (V) ∧ Hid (W.ownsRow (w.heap.size + 1) 5 1 (.slice (some ⟨w0.heap.size, 0, none⟩) 2 2) (2) (Q0.map (Value.int .u8))) ∧ Below w.heap.size w W) (And.intro (x_c0.alloc _) (And.intro (Lib.hid (by rw [← HQ0.out]; exact World.ownsRow_lit (base := w.heap.size + 1) (size := 1) w0 #[.int .u8 2, .int .u8 c.op] 2 zz (by unfold maxLen; omega) rfl)) (hB0.alloc (by first | exact hs0 | (simp; omega)) _))) ?_
  intro w1 ⟨x_c1, O_r1, hB1⟩
  clear x_c0 hB0 hs0
  have hs1 := hB1.size
  clear zz
  refine wp_region_held_drew (S := fun W => Box W (w.heap.size) (V)) (by kernel_rfl) (x_c1).drew (fun _ => ?_)
  refine F_drew (F := fun W => wpAnyH _ _ _ _ _ _ _ _ W) ?_
  intro Ws0 hbs0
  clear hs1
  have x_c_s0 : Box Ws0 (w.heap.size) (V) := Box.below x_c1 hbs0
  have o_r_s0 := Lib.hid (ownR_below O_r1.out hbs0)
  have Bs0 := below_thru hB1 hbs0
  clear x_c1 O_r1 hB1 hbs0
  refine takeH 0 9 (v := ?vs0_1) rfl (by rfl) (by kernel_rfl) (by kernel_rfl) (by kernel_rfl) (fun _ _ _ h => h) (Or.inl ⟨by rfl, ?_⟩) (x_c_s0) ?_
  rotate_left
  · intro wq hSq
    go_simp
    exact rfl
  try simp only [Act.put, List.setIfInBounds_toArray, List.set_cons_zero, List.set_cons_succ]
  refine takeH 1 10 (v := ?vs1_2) rfl (by rfl) (by kernel_rfl) (by kernel_rfl) (by kernel_rfl) (fun _ _ _ h => h) (Or.inl ⟨by rfl, ?_⟩) (x_c_s0) ?_
  rotate_left
  · intro wq hSq
    go_simp
    exact rfl
  try simp only [Act.put, List.setIfInBounds_toArray, List.set_cons_zero, List.set_cons_succ]
  refine takeH 2 11 (v := ?vs2_3) rfl (by rfl) (by kernel_rfl) (by kernel_rfl) (by kernel_rfl) (fun _ _ _ h => h) (Or.inl ⟨by rfl, ?_⟩) (x_c_s0) ?_
  rotate_left
  · intro wq hSq
    have cq := (hSq).c 1 _ v1
    have zq := lt_of_cell cq
    go_simp
    exact rfl
  try simp only [Act.put, List.setIfInBounds_toArray, List.set_cons_zero, List.set_cons_succ]
  refine takeH 3 12 (v := ?vs3_4) rfl (by rfl) (by kernel_rfl) (by kernel_rfl) (by kernel_rfl) (fun _ _ _ h => h) (Or.inl ⟨by rfl, ?_⟩) (x_c_s0) ?_
  rotate_left
  · intro wq hSq
    go_simp
    exact rfl
  try simp only [Act.put, List.setIfInBounds_toArray, List.set_cons_zero, List.set_cons_succ]
  refine takeH 6 15 (v := ?vs6_5) rfl (by rfl) (by kernel_rfl) (by kernel_rfl) (by kernel_rfl) (fun _ _ _ h => h) (Or.inl ⟨by rfl, ?_⟩) (x_c_s0) ?_
  rotate_left
  · intro wq hSq
    go_simp
    exact rfl
  try simp only [Act.put, List.setIfInBounds_toArray, List.set_cons_zero, List.set_cons_succ]
  refine takeH 7 16 (v := ?vs7_6) rfl (by rfl) (by kernel_rfl) (by kernel_rfl) (by kernel_rfl) (fun _ _ _ h => h) (Or.inl ⟨by rfl, ?_⟩) (x_c_s0) ?_
  rotate_left
  · intro wq hSq
    have cq := (hSq).c 2 _ v2
    have zq := lt_of_cell cq
    go_simp
    exact rfl
  try simp only [Act.put, List.setIfInBounds_toArray, List.set_cons_zero, List.set_cons_succ]
  refine takeH 8 17 (v := ?vs8_7) rfl (by rfl) (by kernel_rfl) (by kernel_rfl) (by kernel_rfl) (fun _ _ _ h => h) (Or.inl ⟨by rfl, ?_⟩) (x_c_s0) ?_
  rotate_left
  · intro wq hSq
    go_simp
    exact rfl
  try simp only [Act.put, List.setIfInBounds_toArray, List.set_cons_zero, List.set_cons_succ]
  refine wpAnyH_ready (rs := [4]) (by kernel_rfl) (by simp) (AllReadyH.cons rfl (fun K hK => ?_) AllReadyH.nil)
  go_simp
  refine (CB_t _).mono ?_
  rintro e Ws8 ⟨vb, rfl, hob, hbs8⟩
  have x_c_s8 : Box Ws8 (w.heap.size) (V) := Box.below x_c_s0 hbs8
  have o_r_s8 := Lib.hid (ownR_below o_r_s0.out hbs8)
  have Bs8 := below_thru Bs0 hbs8
  clear x_c_s0 o_r_s0 Bs0 hbs8
  have j_b_s909 : Hid (IsL Ws8 .u8 (vb) (T_t)) := Lib.hid (IsL.own hob rfl)
  clear hob
  refine hK.out _ _ x_c_s8 (fun _ => ?_); clear hK K
  refine wpAnyH_ready (rs := [5]) (by kernel_rfl) (by simp) (AllReadyH.cons rfl (fun K hK => ?_) AllReadyH.nil)
  have zz10 : w.heap.size + 1 ≤ Ws8.heap.size := (x_c_s8).lt
  refine step_append_intsG 14 rfl rfl _ _ 62 rfl (w.heap.size + 1) 5 ti _ 1 .u8 Tryd.underlying62 hin hz0 hz1 hz2 rfl _ (2) _ rfl o_r_s8.out _ (T_t) rfl j_b_s909.out (by unfold maxLen; rw [LB_t.out]; decide) (by rw [LB_t.out]; decide) zz10 ?_
  intro vs10 Ws10 hown hgr
  have hKB := (Below.refl (w.heap.size + 1) _).grown hgr zz10 (ownR_block o_r_s8.out)
  have x_c_s10 : Box Ws10 (w.heap.size) (V) := Box.keepR x_c_s8 hKB (by omega)
  rw [LB_t.out, HQ1.out] at hown
  have o_r_s10 := Lib.hid hown
  have Bs10 := (Bs8).trans (hKB.mono (by omega))
  clear x_c_s8 o_r_s8 j_b_s909 Bs8 hown hgr hKB zz10
  refine hK.out _ _ x_c_s10 (fun _ => ?_); clear hK K
  refine wpAnyH_ready (rs := [9]) (by kernel_rfl) (by simp) (AllReadyH.cons rfl (fun K hK => ?_) AllReadyH.nil)
  go_simp
  refine (CB_u _).mono ?_
  rintro e Ws11 ⟨vb, rfl, hob, hbs11⟩
  have x_c_s11 : Box Ws11 (w.heap.size) (V) := Box.below x_c_s10 hbs11
  have o_r_s11 := Lib.hid (ownR_below o_r_s10.out hbs11)
  have Bs11 := below_thru Bs10 hbs11
  clear x_c_s10 o_r_s10 Bs10 hbs11
  have j_b_s912 : Hid (IsL Ws11 .u8 (vb) (T_u)) := Lib.hid (IsL.own hob rfl)
  clear hob
  refine hK.out _ _ x_c_s11 (fun _ => ?_); clear hK K
  refine wpAnyH_ready (rs := [10]) (by kernel_rfl) (by simp) (AllReadyH.cons rfl (fun K hK => ?_) AllReadyH.nil)
  have zz13 : w.heap.size + 1 ≤ Ws11.heap.size := (x_c_s11).lt
  refine step_append_intsG 19 rfl rfl _ _ 62 rfl (w.heap.size + 1) 5 ti _ 1 .u8 Tryd.underlying62 hin hz0 hz1 hz2 rfl _ (6) _ rfl o_r_s11.out _ (T_u) rfl j_b_s912.out (by unfold maxLen; rw [LB_u.out]; decide) (by rw [LB_u.out]; decide) zz13 ?_
  intro vs13 Ws13 hown hgr
  have hKB := (Below.refl (w.heap.size + 1) _).grown hgr zz13 (ownR_block o_r_s11.out)
  have x_c_s13 : Box Ws13 (w.heap.size) (V) := Box.keepR x_c_s11 hKB (by omega)
  rw [LB_u.out, HQ2.out] at hown
  have o_r_s13 := Lib.hid hown
  have Bs13 := (Bs11).trans (hKB.mono (by omega))
  clear x_c_s11 o_r_s11 j_b_s912 Bs11 hown hgr hKB zz13
  refine hK.out _ _ x_c_s13 (fun _ => ?_); clear hK K
  refine takeH 11 3 (v := ?vs11_14) rfl (by rfl) (by kernel_rfl) (by kernel_rfl) (by kernel_rfl) (fun _ _ _ h => h) (Or.inl ⟨by rfl, ?_⟩) (x_c_s13) ?_
  rotate_left
  · intro wq hSq
    go_simp
    exact rfl
  try simp only [Act.put, List.setIfInBounds_toArray, List.set_cons_zero, List.set_cons_succ]
  refine wpAnyH_done (by kernel_rfl) ?_ _
  have hB2 := Bs13; have hs2 := hB2.size
  have x_c2 := x_c_s13
  have O_r2 := o_r_s13
  clear Bs13 x_c_s13 o_r_s13
  go_wp2_with fail
  refine wp_loop_rounds 5 ?_
  rw [rounds_succ]
  have d_m_c := (x_c2).lt
  have d_m_0 := hs2
  go_upto_region 7 with (first
    | (refine wpList_load_rangew rfl _ _ rfl (Box.rangeMid x_c2 3 (M0) (N0) DL0.out) rfl Tryd.underlying34 rfl SL0.out ?_)
    | (refine wpList_store_boxT (cs := M0) rfl _ _ _ rfl (Box.newc (l := Lm.zero.v) rfl rfl) rfl rfl SL0.out LL0.out OL0.out ?_; intro W2_0 hW2_0 tW2_0))
  have hN : Below Ws13.heap.size Ws13 W2_0 := (hW2_0.below _ _ (by omega) ((Below.refl _ Ws13).alloc (Nat.le_refl _) _))
  have x_m3 : Box W2_0 (Ws13.heap.size) (M0) := hW2_0.box
  have O_r3 : Hid (W2_0.ownsRow (w.heap.size + 1) 5 1 (vs13) (10) (Q2.map (Value.int .u8))) := Lib.hid (ownR_below O_r2.out hN)
  clear O_r2
  have hB3 : Below w.heap.size w W2_0 := below_thru hB2 hN
  have hs3 := hB3.size
  have x_c3 : Box W2_0 (w.heap.size) (V) := Box.below x_c2 hN
  clear hB2 hs2 x_c2
  clear hN hW2_0
  have Y_m3 : Ty W2_0 (Ws13.heap.size) 34 := tW2_0 _ (Ty.newc rfl); clear tW2_0
  refine wp_region_held_drew (S := fun W => Box W (w.heap.size) (V) ∧ Box W (Ws13.heap.size) (M0)) (by kernel_rfl) (And.intro (x_c3).drew (x_m3).drew) (fun _ => ?_)
  refine F_drew (F := fun W => wpAnyH _ _ _ _ _ _ _ _ W) ?_
  intro Wp00 hbp00
  clear hs3
  have x_c_p00 : Box Wp00 (w.heap.size) (V) := Box.below x_c3 hbp00
  have x_m_p00 : Box Wp00 (Ws13.heap.size) (M0) := Box.below x_m3 hbp00
  have y_m_p00 := Ty.below Y_m3 hbp00
  have o_r_p00 := Lib.hid (ownR_below O_r3.out hbp00)
  have Bp00 := below_thru hB3 hbp00
  clear x_c3 x_m3 Y_m3 O_r3 hB3 hbp00
  refine takeH 0 28 (v := ?vp00_1) rfl (by rfl) (by kernel_rfl) (by kernel_rfl) (by kernel_rfl) (fun _ _ _ h => h) (Or.inl ⟨by rfl, ?_⟩) ((And.intro x_c_p00 x_m_p00)) ?_
  rotate_left
  · intro wq hSq
    go_simp
    exact rfl
  try simp only [Act.put, List.setIfInBounds_toArray, List.set_cons_zero, List.set_cons_succ]
  refine takeH 1 29 (v := ?vp01_2) rfl (by rfl) (by kernel_rfl) (by kernel_rfl) (by kernel_rfl) (fun _ _ _ h => h) (Or.inl ⟨by rfl, ?_⟩) ((And.intro x_c_p00 x_m_p00)) ?_
  rotate_left
  · intro wq hSq
    go_simp
    exact rfl
  try simp only [Act.put, List.setIfInBounds_toArray, List.set_cons_zero, List.set_cons_succ]
  refine takeH 2 30 (v := ?vp02_3) rfl (by rfl) (by kernel_rfl) (by kernel_rfl) (by kernel_rfl) (fun _ _ _ h => h) (Or.inl ⟨by rfl, ?_⟩) ((And.intro x_c_p00 x_m_p00)) ?_
  rotate_left
  · intro wq hSq
    have cq := (hSq.2).c 0 _ m00
    have zq := lt_of_cell cq
    go_simp
    exact rfl
  try simp only [Act.put, List.setIfInBounds_toArray, List.set_cons_zero, List.set_cons_succ]
  refine takeH 3 31 (v := ?vp03_4) rfl (by rfl) (by kernel_rfl) (by kernel_rfl) (by kernel_rfl) (fun _ _ _ h => h) (Or.inl ⟨by rfl, ?_⟩) ((And.intro x_c_p00 x_m_p00)) ?_
  rotate_left
  · intro wq hSq
    go_simp
    exact rfl
  try simp only [Act.put, List.setIfInBounds_toArray, List.set_cons_zero, List.set_cons_succ]
  refine takeH 6 34 (v := ?vp06_5) rfl (by rfl) (by kernel_rfl) (by kernel_rfl) (by kernel_rfl) (fun _ _ _ h => h) (Or.inl ⟨by rfl, ?_⟩) ((And.intro x_c_p00 x_m_p00)) ?_
  rotate_left
  · intro wq hSq
    go_simp
    exact rfl
  try simp only [Act.put, List.setIfInBounds_toArray, List.set_cons_zero, List.set_cons_succ]
  refine takeH 7 35 (v := ?vp07_6) rfl (by rfl) (by kernel_rfl) (by kernel_rfl) (by kernel_rfl) (fun _ _ _ h => h) (Or.inl ⟨by rfl, ?_⟩) ((And.intro x_c_p00 x_m_p00)) ?_
  rotate_left
  · intro wq hSq
    have cq := (hSq.2).c 1 _ m01
    have zq := lt_of_cell cq
    go_simp
    exact rfl
  try simp only [Act.put, List.setIfInBounds_toArray, List.set_cons_zero, List.set_cons_succ]
  refine takeH 8 36 (v := ?vp08_7) rfl (by rfl) (by kernel_rfl) (by kernel_rfl) (by kernel_rfl) (fun _ _ _ h => h) (Or.inl ⟨by rfl, ?_⟩) ((And.intro x_c_p00 x_m_p00)) ?_
  rotate_left
  · intro wq hSq
    go_simp
    exact rfl
  try simp only [Act.put, List.setIfInBounds_toArray, List.set_cons_zero, List.set_cons_succ]
  refine takeH 11 39 (v := ?vp011_8) rfl (by rfl) (by kernel_rfl) (by kernel_rfl) (by kernel_rfl) (fun _ _ _ h => h) (Or.inl ⟨by rfl, ?_⟩) ((And.intro x_c_p00 x_m_p00)) ?_
  rotate_left
  · intro wq hSq
    go_simp
    exact rfl
  try simp only [Act.put, List.setIfInBounds_toArray, List.set_cons_zero, List.set_cons_succ]
  refine takeH 12 40 (v := ?vp012_9) rfl (by rfl) (by kernel_rfl) (by kernel_rfl) (by kernel_rfl) (fun _ _ _ h => h) (Or.inl ⟨by rfl, ?_⟩) ((And.intro x_c_p00 x_m_p00)) ?_
  rotate_left
  · intro wq hSq
    have cq := (hSq.2).c 2 _ m02
    have zq := lt_of_cell cq
    go_simp
    exact rfl
  try simp only [Act.put, List.setIfInBounds_toArray, List.set_cons_zero, List.set_cons_succ]
  refine takeH 13 41 (v := ?vp013_10) rfl (by rfl) (by kernel_rfl) (by kernel_rfl) (by kernel_rfl) (fun _ _ _ h => h) (Or.inl ⟨by rfl, ?_⟩) ((And.intro x_c_p00 x_m_p00)) ?_
  rotate_left
  · intro wq hSq
    go_simp
    exact rfl
  try simp only [Act.put, List.setIfInBounds_toArray, List.set_cons_zero, List.set_cons_succ]
  refine wpAnyH_ready (rs := [4]) (by kernel_rfl) (by simp) (AllReadyH.cons rfl (fun K hK => ?_) AllReadyH.nil)
  go_simp
  refine (CB_l0b _).mono ?_
  rintro e Wp011 ⟨vb, rfl, hob, hbp011⟩
  have x_c_p011 : Box Wp011 (w.heap.size) (V) := Box.below x_c_p00 hbp011
  have x_m_p011 : Box Wp011 (Ws13.heap.size) (M0) := Box.below x_m_p00 hbp011
  have y_m_p011 := Ty.below y_m_p00 hbp011
  have o_r_p011 := Lib.hid (ownR_below o_r_p00.out hbp011)
  have Bp011 := below_thru Bp00 hbp011
  clear x_c_p00 x_m_p00 y_m_p00 o_r_p00 Bp00 hbp011
  have j_b_p0912 : Hid (IsL Wp011 .u8 (vb) (T_l0b)) := Lib.hid (IsL.own hob rfl)
  clear hob
  refine hK.out _ _ (And.intro x_c_p011 x_m_p011) (fun _ => ?_); clear hK K
  refine wpAnyH_ready (rs := [5]) (by kernel_rfl) (by simp) (AllReadyH.cons rfl (fun K hK => ?_) AllReadyH.nil)
  have zz13 : w.heap.size + 1 ≤ Wp011.heap.size := (x_c_p011).lt
  refine step_append_intsG 33 rfl rfl _ _ 62 rfl (w.heap.size + 1) 5 ti _ 1 .u8 Tryd.underlying62 hin hz0 hz1 hz2 rfl _ (10) _ rfl o_r_p011.out _ (T_l0b) rfl j_b_p0912.out (by unfold maxLen; rw [LB_l0b.out]; decide) (by rw [LB_l0b.out]; decide) zz13 ?_
  intro vp013 Wp013 hown hgr
  have hKB := (Below.refl (w.heap.size + 1) _).grown hgr zz13 (ownR_block o_r_p011.out)
  have x_c_p013 : Box Wp013 (w.heap.size) (V) := Box.keepR x_c_p011 hKB (by omega)
  obtain ⟨x_m_p013, y_m_p013⟩ := Box.grownT x_m_p011 y_m_p011 o_r_p011.out (by decide) hgr
  rw [LB_l0b.out, HQ3.out] at hown
  have o_r_p013 := Lib.hid hown
  have Bp013 := (Bp011).trans (hKB.mono (by omega))
  clear x_c_p011 y_m_p011 x_m_p011 o_r_p011 j_b_p0912 Bp011 hown hgr hKB zz13
  refine hK.out _ _ (And.intro x_c_p013 x_m_p013) (fun _ => ?_); clear hK K
  refine wpAnyH_ready (rs := [9]) (by kernel_rfl) (by simp) (AllReadyH.cons rfl (fun K hK => ?_) AllReadyH.nil)
  go_simp
  refine (CB_l0r _).mono ?_
  rintro e Wp014 ⟨vb, rfl, hob, hbp014⟩
  have x_c_p014 : Box Wp014 (w.heap.size) (V) := Box.below x_c_p013 hbp014
  have x_m_p014 : Box Wp014 (Ws13.heap.size) (M0) := Box.below x_m_p013 hbp014
  have y_m_p014 := Ty.below y_m_p013 hbp014
  have o_r_p014 := Lib.hid (ownR_below o_r_p013.out hbp014)
  have Bp014 := below_thru Bp013 hbp014
  clear x_c_p013 x_m_p013 y_m_p013 o_r_p013 Bp013 hbp014
  have j_b_p0915 : Hid (IsL Wp014 .u8 (vb) (T_l0r)) := Lib.hid (IsL.own hob rfl)
  clear hob
  refine hK.out _ _ (And.intro x_c_p014 x_m_p014) (fun _ => ?_); clear hK K
  refine wpAnyH_ready (rs := [10]) (by kernel_rfl) (by simp) (AllReadyH.cons rfl (fun K hK => ?_) AllReadyH.nil)
  have zz16 : w.heap.size + 1 ≤ Wp014.heap.size := (x_c_p014).lt
  refine step_append_intsG 38 rfl rfl _ _ 62 rfl (w.heap.size + 1) 5 ti _ 1 .u8 Tryd.underlying62 hin hz0 hz1 hz2 rfl _ (14) _ rfl o_r_p014.out _ (T_l0r) rfl j_b_p0915.out (by unfold maxLen; rw [LB_l0r.out]; decide) (by rw [LB_l0r.out]; decide) zz16 ?_
  intro vp016 Wp016 hown hgr
  have hKB := (Below.refl (w.heap.size + 1) _).grown hgr zz16 (ownR_block o_r_p014.out)
  have x_c_p016 : Box Wp016 (w.heap.size) (V) := Box.keepR x_c_p014 hKB (by omega)
  obtain ⟨x_m_p016, y_m_p016⟩ := Box.grownT x_m_p014 y_m_p014 o_r_p014.out (by decide) hgr
  rw [LB_l0r.out, HQ4.out] at hown
  have o_r_p016 := Lib.hid hown
  have Bp016 := (Bp014).trans (hKB.mono (by omega))
  clear x_c_p014 y_m_p014 x_m_p014 o_r_p014 j_b_p0915 Bp014 hown hgr hKB zz16
  refine hK.out _ _ (And.intro x_c_p016 x_m_p016) (fun _ => ?_); clear hK K
  refine wpAnyH_ready (rs := [14]) (by kernel_rfl) (by simp) (AllReadyH.cons rfl (fun K hK => ?_) AllReadyH.nil)
  go_simp
  refine (CB_l0p _).mono ?_
  rintro e Wp017 ⟨vb, rfl, hob, hbp017⟩
  have x_c_p017 : Box Wp017 (w.heap.size) (V) := Box.below x_c_p016 hbp017
  have x_m_p017 : Box Wp017 (Ws13.heap.size) (M0) := Box.below x_m_p016 hbp017
  have y_m_p017 := Ty.below y_m_p016 hbp017
  have o_r_p017 := Lib.hid (ownR_below o_r_p016.out hbp017)
  have Bp017 := below_thru Bp016 hbp017
  clear x_c_p016 x_m_p016 y_m_p016 o_r_p016 Bp016 hbp017
  have j_b_p0918 : Hid (IsL Wp017 .u8 (vb) (T_l0p)) := Lib.hid (IsL.own hob rfl)
  clear hob
  refine hK.out _ _ (And.intro x_c_p017 x_m_p017) (fun _ => ?_); clear hK K
  refine wpAnyH_ready (rs := [15]) (by kernel_rfl) (by simp) (AllReadyH.cons rfl (fun K hK => ?_) AllReadyH.nil)
  have zz19 : w.heap.size + 1 ≤ Wp017.heap.size := (x_c_p017).lt
  refine step_append_intsG 43 rfl rfl _ _ 62 rfl (w.heap.size + 1) 5 ti _ 1 .u8 Tryd.underlying62 hin hz0 hz1 hz2 rfl _ (18) _ rfl o_r_p017.out _ (T_l0p) rfl j_b_p0918.out (by unfold maxLen; rw [LB_l0p.out]; decide) (by rw [LB_l0p.out]; decide) zz19 ?_
  intro vp019 Wp019 hown hgr
  have hKB := (Below.refl (w.heap.size + 1) _).grown hgr zz19 (ownR_block o_r_p017.out)
  have x_c_p019 : Box Wp019 (w.heap.size) (V) := Box.keepR x_c_p017 hKB (by omega)
  obtain ⟨x_m_p019, y_m_p019⟩ := Box.grownT x_m_p017 y_m_p017 o_r_p017.out (by decide) hgr
  rw [LB_l0p.out, HQ5.out] at hown
  have o_r_p019 := Lib.hid hown
  have Bp019 := (Bp017).trans (hKB.mono (by omega))
  clear x_c_p017 y_m_p017 x_m_p017 o_r_p017 j_b_p0918 Bp017 hown hgr hKB zz19
  refine hK.out _ _ (And.intro x_c_p019 x_m_p019) (fun _ => ?_); clear hK K
  refine takeH 16 3 (v := ?vp016_20) rfl (by rfl) (by kernel_rfl) (by kernel_rfl) (by kernel_rfl) (fun _ _ _ h => h) (Or.inl ⟨by rfl, ?_⟩) ((And.intro x_c_p019 x_m_p019)) ?_
  rotate_left
  · intro wq hSq
    go_simp
    exact rfl
  try simp only [Act.put, List.setIfInBounds_toArray, List.set_cons_zero, List.set_cons_succ]
  refine wpAnyH_done (by kernel_rfl) ?_ _
  have hB4 := Bp019; have hs4 := hB4.size
  have x_c4 := x_c_p019
  have x_m4 := x_m_p019
  have Y_m4 := y_m_p019
  have O_r4 := o_r_p019
  clear Bp019 x_c_p019 x_m_p019 y_m_p019 o_r_p019
  clear Y_m4
  clear x_m4
  go_wp2_with fail
  rw [rounds_succ]
  have d_m_c := (x_c4).lt
  have d_m_0 := hs4
  go_upto_region 7 with (first
    | (refine wpList_load_rangew rfl _ _ rfl (Box.rangeMid x_c4 6 (M1) (N1) DL1.out) rfl Tryd.underlying34 rfl SL1.out ?_)
    | (refine wpList_store_boxT (cs := M1) rfl _ _ _ rfl (Box.newc (l := Lm.zero.v) rfl rfl) rfl rfl SL1.out LL1.out OL1.out ?_; intro W4_0 hW4_0 tW4_0))
  have hN : Below Wp019.heap.size Wp019 W4_0 := (hW4_0.below _ _ (by omega) ((Below.refl _ Wp019).alloc (Nat.le_refl _) _))
  have x_m5 : Box W4_0 (Wp019.heap.size) (M1) := hW4_0.box
  have O_r5 : Hid (W4_0.ownsRow (w.heap.size + 1) 5 1 (vp019) (22) (Q5.map (Value.int .u8))) := Lib.hid (ownR_below O_r4.out hN)
  clear O_r4
  have hB5 : Below w.heap.size w W4_0 := below_thru hB4 hN
  have hs5 := hB5.size
  have x_c5 : Box W4_0 (w.heap.size) (V) := Box.below x_c4 hN
  clear hB4 hs4 x_c4
  clear hN hW4_0
  have Y_m5 : Ty W4_0 (Wp019.heap.size) 34 := tW4_0 _ (Ty.newc rfl); clear tW4_0
  refine wp_region_held_drew (S := fun W => Box W (w.heap.size) (V) ∧ Box W (Wp019.heap.size) (M1)) (by kernel_rfl) (And.intro (x_c5).drew (x_m5).drew) (fun _ => ?_)
  refine F_drew (F := fun W => wpAnyH _ _ _ _ _ _ _ _ W) ?_
  intro Wp10 hbp10
  clear hs5
  have x_c_p10 : Box Wp10 (w.heap.size) (V) := Box.below x_c5 hbp10
  have x_m_p10 : Box Wp10 (Wp019.heap.size) (M1) := Box.below x_m5 hbp10
  have y_m_p10 := Ty.below Y_m5 hbp10
  have o_r_p10 := Lib.hid (ownR_below O_r5.out hbp10)
  have Bp10 := below_thru hB5 hbp10
  clear x_c5 x_m5 Y_m5 O_r5 hB5 hbp10
  refine takeH 0 28 (v := ?vp10_1) rfl (by rfl) (by kernel_rfl) (by kernel_rfl) (by kernel_rfl) (fun _ _ _ h => h) (Or.inl ⟨by rfl, ?_⟩) ((And.intro x_c_p10 x_m_p10)) ?_
  rotate_left
  · intro wq hSq
    go_simp
    exact rfl
  try simp only [Act.put, List.setIfInBounds_toArray, List.set_cons_zero, List.set_cons_succ]
  refine takeH 1 29 (v := ?vp11_2) rfl (by rfl) (by kernel_rfl) (by kernel_rfl) (by kernel_rfl) (fun _ _ _ h => h) (Or.inl ⟨by rfl, ?_⟩) ((And.intro x_c_p10 x_m_p10)) ?_
  rotate_left
  · intro wq hSq
    go_simp
    exact rfl
  try simp only [Act.put, List.setIfInBounds_toArray, List.set_cons_zero, List.set_cons_succ]
  refine takeH 2 30 (v := ?vp12_3) rfl (by rfl) (by kernel_rfl) (by kernel_rfl) (by kernel_rfl) (fun _ _ _ h => h) (Or.inl ⟨by rfl, ?_⟩) ((And.intro x_c_p10 x_m_p10)) ?_
  rotate_left
  · intro wq hSq
    have cq := (hSq.2).c 0 _ m10
    have zq := lt_of_cell cq
    go_simp
    exact rfl
  try simp only [Act.put, List.setIfInBounds_toArray, List.set_cons_zero, List.set_cons_succ]
  refine takeH 3 31 (v := ?vp13_4) rfl (by rfl) (by kernel_rfl) (by kernel_rfl) (by kernel_rfl) (fun _ _ _ h => h) (Or.inl ⟨by rfl, ?_⟩) ((And.intro x_c_p10 x_m_p10)) ?_
  rotate_left
  · intro wq hSq
    go_simp
    exact rfl
  try simp only [Act.put, List.setIfInBounds_toArray, List.set_cons_zero, List.set_cons_succ]
  refine takeH 6 34 (v := ?vp16_5) rfl (by rfl) (by kernel_rfl) (by kernel_rfl) (by kernel_rfl) (fun _ _ _ h => h) (Or.inl ⟨by rfl, ?_⟩) ((And.intro x_c_p10 x_m_p10)) ?_
  rotate_left
  · intro wq hSq
    go_simp
    exact rfl
  try simp only [Act.put, List.setIfInBounds_toArray, List.set_cons_zero, List.set_cons_succ]
  refine takeH 7 35 (v := ?vp17_6) rfl (by rfl) (by kernel_rfl) (by kernel_rfl) (by kernel_rfl) (fun _ _ _ h => h) (Or.inl ⟨by rfl, ?_⟩) ((And.intro x_c_p10 x_m_p10)) ?_
  rotate_left
  · intro wq hSq
    have cq := (hSq.2).c 1 _ m11
    have zq := lt_of_cell cq
    go_simp
    exact rfl
  try simp only [Act.put, List.setIfInBounds_toArray, List.set_cons_zero, List.set_cons_succ]
  refine takeH 8 36 (v := ?vp18_7) rfl (by rfl) (by kernel_rfl) (by kernel_rfl) (by kernel_rfl) (fun _ _ _ h => h) (Or.inl ⟨by rfl, ?_⟩) ((And.intro x_c_p10 x_m_p10)) ?_
  rotate_left
  · intro wq hSq
    go_simp
    exact rfl
  try simp only [Act.put, List.setIfInBounds_toArray, List.set_cons_zero, List.set_cons_succ]
  refine takeH 11 39 (v := ?vp111_8) rfl (by rfl) (by kernel_rfl) (by kernel_rfl) (by kernel_rfl) (fun _ _ _ h => h) (Or.inl ⟨by rfl, ?_⟩) ((And.intro x_c_p10 x_m_p10)) ?_
  rotate_left
  · intro wq hSq
    go_simp
    exact rfl
  try simp only [Act.put, List.setIfInBounds_toArray, List.set_cons_zero, List.set_cons_succ]
  refine takeH 12 40 (v := ?vp112_9) rfl (by rfl) (by kernel_rfl) (by kernel_rfl) (by kernel_rfl) (fun _ _ _ h => h) (Or.inl ⟨by rfl, ?_⟩) ((And.intro x_c_p10 x_m_p10)) ?_
  rotate_left
  · intro wq hSq
    have cq := (hSq.2).c 2 _ m12
    have zq := lt_of_cell cq
    go_simp
    exact rfl
  try simp only [Act.put, List.setIfInBounds_toArray, List.set_cons_zero, List.set_cons_succ]
  refine takeH 13 41 (v := ?vp113_10) rfl (by rfl) (by kernel_rfl) (by kernel_rfl) (by kernel_rfl) (fun _ _ _ h => h) (Or.inl ⟨by rfl, ?_⟩) ((And.intro x_c_p10 x_m_p10)) ?_
  rotate_left
  · intro wq hSq
    go_simp
    exact rfl
  try simp only [Act.put, List.setIfInBounds_toArray, List.set_cons_zero, List.set_cons_succ]
  refine wpAnyH_ready (rs := [4]) (by kernel_rfl) (by simp) (AllReadyH.cons rfl (fun K hK => ?_) AllReadyH.nil)
  go_simp
  refine (CB_l1b _).mono ?_
  rintro e Wp111 ⟨vb, rfl, hob, hbp111⟩
  have x_c_p111 : Box Wp111 (w.heap.size) (V) := Box.below x_c_p10 hbp111
  have x_m_p111 : Box Wp111 (Wp019.heap.size) (M1) := Box.below x_m_p10 hbp111
  have y_m_p111 := Ty.below y_m_p10 hbp111
  have o_r_p111 := Lib.hid (ownR_below o_r_p10.out hbp111)
  have Bp111 := below_thru Bp10 hbp111
  clear x_c_p10 x_m_p10 y_m_p10 o_r_p10 Bp10 hbp111
  have j_b_p1912 : Hid (IsL Wp111 .u8 (vb) (T_l1b)) := Lib.hid (IsL.own hob rfl)
  clear hob
  refine hK.out _ _ (And.intro x_c_p111 x_m_p111) (fun _ => ?_); clear hK K
  refine wpAnyH_ready (rs := [5]) (by kernel_rfl) (by simp) (AllReadyH.cons rfl (fun K hK => ?_) AllReadyH.nil)
  have zz13 : w.heap.size + 1 ≤ Wp111.heap.size := (x_c_p111).lt
  refine step_append_intsG 33 rfl rfl _ _ 62 rfl (w.heap.size + 1) 5 ti _ 1 .u8 Tryd.underlying62 hin hz0 hz1 hz2 rfl _ (22) _ rfl o_r_p111.out _ (T_l1b) rfl j_b_p1912.out (by unfold maxLen; rw [LB_l1b.out]; decide) (by rw [LB_l1b.out]; decide) zz13 ?_
  intro vp113 Wp113 hown hgr
  have hKB := (Below.refl (w.heap.size + 1) _).grown hgr zz13 (ownR_block o_r_p111.out)
  have x_c_p113 : Box Wp113 (w.heap.size) (V) := Box.keepR x_c_p111 hKB (by omega)
  obtain ⟨x_m_p113, y_m_p113⟩ := Box.grownT x_m_p111 y_m_p111 o_r_p111.out (by decide) hgr
  rw [LB_l1b.out, HQ6.out] at hown
  have o_r_p113 := Lib.hid hown
  have Bp113 := (Bp111).trans (hKB.mono (by omega))
  clear x_c_p111 y_m_p111 x_m_p111 o_r_p111 j_b_p1912 Bp111 hown hgr hKB zz13
  refine hK.out _ _ (And.intro x_c_p113 x_m_p113) (fun _ => ?_); clear hK K
  refine wpAnyH_ready (rs := [9]) (by kernel_rfl) (by simp) (AllReadyH.cons rfl (fun K hK => ?_) AllReadyH.nil)
  go_simp
  refine (CB_l1r _).mono ?_
  rintro e Wp114 ⟨vb, rfl, hob, hbp114⟩
  have x_c_p114 : Box Wp114 (w.heap.size) (V) := Box.below x_c_p113 hbp114
  have x_m_p114 : Box Wp114 (Wp019.heap.size) (M1) := Box.below x_m_p113 hbp114
  have y_m_p114 := Ty.below y_m_p113 hbp114
  have o_r_p114 := Lib.hid (ownR_below o_r_p113.out hbp114)
  have Bp114 := below_thru Bp113 hbp114
  clear x_c_p113 x_m_p113 y_m_p113 o_r_p113 Bp113 hbp114
  have j_b_p1915 : Hid (IsL Wp114 .u8 (vb) (T_l1r)) := Lib.hid (IsL.own hob rfl)
  clear hob
  refine hK.out _ _ (And.intro x_c_p114 x_m_p114) (fun _ => ?_); clear hK K
  refine wpAnyH_ready (rs := [10]) (by kernel_rfl) (by simp) (AllReadyH.cons rfl (fun K hK => ?_) AllReadyH.nil)
  have zz16 : w.heap.size + 1 ≤ Wp114.heap.size := (x_c_p114).lt
  refine step_append_intsG 38 rfl rfl _ _ 62 rfl (w.heap.size + 1) 5 ti _ 1 .u8 Tryd.underlying62 hin hz0 hz1 hz2 rfl _ (26) _ rfl o_r_p114.out _ (T_l1r) rfl j_b_p1915.out (by unfold maxLen; rw [LB_l1r.out]; decide) (by rw [LB_l1r.out]; decide) zz16 ?_
  intro vp116 Wp116 hown hgr
  have hKB := (Below.refl (w.heap.size + 1) _).grown hgr zz16 (ownR_block o_r_p114.out)
  have x_c_p116 : Box Wp116 (w.heap.size) (V) := Box.keepR x_c_p114 hKB (by omega)
  obtain ⟨x_m_p116, y_m_p116⟩ := Box.grownT x_m_p114 y_m_p114 o_r_p114.out (by decide) hgr
  rw [LB_l1r.out, HQ7.out] at hown
  have o_r_p116 := Lib.hid hown
  have Bp116 := (Bp114).trans (hKB.mono (by omega))
  clear x_c_p114 y_m_p114 x_m_p114 o_r_p114 j_b_p1915 Bp114 hown hgr hKB zz16
  refine hK.out _ _ (And.intro x_c_p116 x_m_p116) (fun _ => ?_); clear hK K
  refine wpAnyH_ready (rs := [14]) (by kernel_rfl) (by simp) (AllReadyH.cons rfl (fun K hK => ?_) AllReadyH.nil)
  go_simp
  refine (CB_l1p _).mono ?_
  rintro e Wp117 ⟨vb, rfl, hob, hbp117⟩
  have x_c_p117 : Box Wp117 (w.heap.size) (V) := Box.below x_c_p116 hbp117
  have x_m_p117 : Box Wp117 (Wp019.heap.size) (M1) := Box.below x_m_p116 hbp117
  have y_m_p117 := Ty.below y_m_p116 hbp117
  have o_r_p117 := Lib.hid (ownR_below o_r_p116.out hbp117)
  have Bp117 := below_thru Bp116 hbp117
  clear x_c_p116 x_m_p116 y_m_p116 o_r_p116 Bp116 hbp117
  have j_b_p1918 : Hid (IsL Wp117 .u8 (vb) (T_l1p)) := Lib.hid (IsL.own hob rfl)
  clear hob
  refine hK.out _ _ (And.intro x_c_p117 x_m_p117) (fun _ => ?_); clear hK K
  refine wpAnyH_ready (rs := [15]) (by kernel_rfl) (by simp) (AllReadyH.cons rfl (fun K hK => ?_) AllReadyH.nil)
  have zz19 : w.heap.size + 1 ≤ Wp117.heap.size := (x_c_p117).lt
  refine step_append_intsG 43 rfl rfl _ _ 62 rfl (w.heap.size + 1) 5 ti _ 1 .u8 Tryd.underlying62 hin hz0 hz1 hz2 rfl _ (30) _ rfl o_r_p117.out _ (T_l1p) rfl j_b_p1918.out (by unfold maxLen; rw [LB_l1p.out]; decide) (by rw [LB_l1p.out]; decide) zz19 ?_
  intro vp119 Wp119 hown hgr
  have hKB := (Below.refl (w.heap.size + 1) _).grown hgr zz19 (ownR_block o_r_p117.out)
  have x_c_p119 : Box Wp119 (w.heap.size) (V) := Box.keepR x_c_p117 hKB (by omega)
  obtain ⟨x_m_p119, y_m_p119⟩ := Box.grownT x_m_p117 y_m_p117 o_r_p117.out (by decide) hgr
  rw [LB_l1p.out, HQ8.out] at hown
  have o_r_p119 := Lib.hid hown
  have Bp119 := (Bp117).trans (hKB.mono (by omega))
  clear x_c_p117 y_m_p117 x_m_p117 o_r_p117 j_b_p1918 Bp117 hown hgr hKB zz19
  refine hK.out _ _ (And.intro x_c_p119 x_m_p119) (fun _ => ?_); clear hK K
  refine takeH 16 3 (v := ?vp116_20) rfl (by rfl) (by kernel_rfl) (by kernel_rfl) (by kernel_rfl) (fun _ _ _ h => h) (Or.inl ⟨by rfl, ?_⟩) ((And.intro x_c_p119 x_m_p119)) ?_
  rotate_left
  · intro wq hSq
    go_simp
    exact rfl
  try simp only [Act.put, List.setIfInBounds_toArray, List.set_cons_zero, List.set_cons_succ]
  refine wpAnyH_done (by kernel_rfl) ?_ _
  have hB6 := Bp119; have hs6 := hB6.size
  have x_c6 := x_c_p119
  have x_m6 := x_m_p119
  have Y_m6 := y_m_p119
  have O_r6 := o_r_p119
  clear Bp119 x_c_p119 x_m_p119 y_m_p119 o_r_p119
  clear Y_m6
  clear x_m6
  go_wp2_with fail
  rw [rounds_succ]
  have d_m_c := (x_c6).lt
  have d_m_0 := hs6
  go_upto_region 7 with (first
    | (refine wpList_load_rangew rfl _ _ rfl (Box.rangeMid x_c6 9 (M2) (N2) DL2.out) rfl Tryd.underlying34 rfl SL2.out ?_)
    | (refine wpList_store_boxT (cs := M2) rfl _ _ _ rfl (Box.newc (l := Lm.zero.v) rfl rfl) rfl rfl SL2.out LL2.out OL2.out ?_; intro W6_0 hW6_0 tW6_0))
  have hN : Below Wp119.heap.size Wp119 W6_0 := (hW6_0.below _ _ (by omega) ((Below.refl _ Wp119).alloc (Nat.le_refl _) _))
  have x_m7 : Box W6_0 (Wp119.heap.size) (M2) := hW6_0.box
  have O_r7 : Hid (W6_0.ownsRow (w.heap.size + 1) 5 1 (vp119) (34) (Q8.map (Value.int .u8))) := Lib.hid (ownR_below O_r6.out hN)
  clear O_r6
  have hB7 : Below w.heap.size w W6_0 := below_thru hB6 hN
  have hs7 := hB7.size
  have x_c7 : Box W6_0 (w.heap.size) (V) := Box.below x_c6 hN
  clear hB6 hs6 x_c6
  clear hN hW6_0
  have Y_m7 : Ty W6_0 (Wp119.heap.size) 34 := tW6_0 _ (Ty.newc rfl); clear tW6_0
  refine wp_region_held_drew (S := fun W => Box W (w.heap.size) (V) ∧ Box W (Wp119.heap.size) (M2)) (by kernel_rfl) (And.intro (x_c7).drew (x_m7).drew) (fun _ => ?_)
  refine F_drew (F := fun W => wpAnyH _ _ _ _ _ _ _ _ W) ?_
  intro Wp20 hbp20
  clear hs7
  have x_c_p20 : Box Wp20 (w.heap.size) (V) := Box.below x_c7 hbp20
  have x_m_p20 : Box Wp20 (Wp119.heap.size) (M2) := Box.below x_m7 hbp20
  have y_m_p20 := Ty.below Y_m7 hbp20
  have o_r_p20 := Lib.hid (ownR_below O_r7.out hbp20)
  have Bp20 := below_thru hB7 hbp20
  clear x_c7 x_m7 Y_m7 O_r7 hB7 hbp20
  refine takeH 0 28 (v := ?vp20_1) rfl (by rfl) (by kernel_rfl) (by kernel_rfl) (by kernel_rfl) (fun _ _ _ h => h) (Or.inl ⟨by rfl, ?_⟩) ((And.intro x_c_p20 x_m_p20)) ?_
  rotate_left
  · intro wq hSq
    go_simp
    exact rfl
  try simp only [Act.put, List.setIfInBounds_toArray, List.set_cons_zero, List.set_cons_succ]
  refine takeH 1 29 (v := ?vp21_2) rfl (by rfl) (by kernel_rfl) (by kernel_rfl) (by kernel_rfl) (fun _ _ _ h => h) (Or.inl ⟨by rfl, ?_⟩) ((And.intro x_c_p20 x_m_p20)) ?_
  rotate_left
  · intro wq hSq
    go_simp
    exact rfl
  try simp only [Act.put, List.setIfInBounds_toArray, List.set_cons_zero, List.set_cons_succ]
  refine takeH 2 30 (v := ?vp22_3) rfl (by rfl) (by kernel_rfl) (by kernel_rfl) (by kernel_rfl) (fun _ _ _ h => h) (Or.inl ⟨by rfl, ?_⟩) ((And.intro x_c_p20 x_m_p20)) ?_
  rotate_left
  · intro wq hSq
    have cq := (hSq.2).c 0 _ m20
    have zq := lt_of_cell cq
    go_simp
    exact rfl
  try simp only [Act.put, List.setIfInBounds_toArray, List.set_cons_zero, List.set_cons_succ]
  refine takeH 3 31 (v := ?vp23_4) rfl (by rfl) (by kernel_rfl) (by kernel_rfl) (by kernel_rfl) (fun _ _ _ h => h) (Or.inl ⟨by rfl, ?_⟩) ((And.intro x_c_p20 x_m_p20)) ?_
  rotate_left
  · intro wq hSq
    go_simp
    exact rfl
  try simp only [Act.put, List.setIfInBounds_toArray, List.set_cons_zero, List.set_cons_succ]
  refine takeH 6 34 (v := ?vp26_5) rfl (by rfl) (by kernel_rfl) (by kernel_rfl) (by kernel_rfl) (fun _ _ _ h => h) (Or.inl ⟨by rfl, ?_⟩) ((And.intro x_c_p20 x_m_p20)) ?_
  rotate_left
  · intro wq hSq
    go_simp
    exact rfl
  try simp only [Act.put, List.setIfInBounds_toArray, List.set_cons_zero, List.set_cons_succ]
  refine takeH 7 35 (v := ?vp27_6) rfl (by rfl) (by kernel_rfl) (by kernel_rfl) (by kernel_rfl) (fun _ _ _ h => h) (Or.inl ⟨by rfl, ?_⟩) ((And.intro x_c_p20 x_m_p20)) ?_
  rotate_left
  · intro wq hSq
    have cq := (hSq.2).c 1 _ m21
    have zq := lt_of_cell cq
    go_simp
    exact rfl
  try simp only [Act.put, List.setIfInBounds_toArray, List.set_cons_zero, List.set_cons_succ]
  refine takeH 8 36 (v := ?vp28_7) rfl (by rfl) (by kernel_rfl) (by kernel_rfl) (by kernel_rfl) (fun _ _ _ h => h) (Or.inl ⟨by rfl, ?_⟩) ((And.intro x_c_p20 x_m_p20)) ?_
  rotate_left
  · intro wq hSq
    go_simp
    exact rfl
  try simp only [Act.put, List.setIfInBounds_toArray, List.set_cons_zero, List.set_cons_succ]
  refine takeH 11 39 (v := ?vp211_8) rfl (by rfl) (by kernel_rfl) (by kernel_rfl) (by kernel_rfl) (fun _ _ _ h => h) (Or.inl ⟨by rfl, ?_⟩) ((And.intro x_c_p20 x_m_p20)) ?_
  rotate_left
  · intro wq hSq
    go_simp
    exact rfl
  try simp only [Act.put, List.setIfInBounds_toArray, List.set_cons_zero, List.set_cons_succ]
  refine takeH 12 40 (v := ?vp212_9) rfl (by rfl) (by kernel_rfl) (by kernel_rfl) (by kernel_rfl) (fun _ _ _ h => h) (Or.inl ⟨by rfl, ?_⟩) ((And.intro x_c_p20 x_m_p20)) ?_
  rotate_left
  · intro wq hSq
    have cq := (hSq.2).c 2 _ m22
    have zq := lt_of_cell cq
    go_simp
    exact rfl
  try simp only [Act.put, List.setIfInBounds_toArray, List.set_cons_zero, List.set_cons_succ]
  refine takeH 13 41 (v := ?vp213_10) rfl (by rfl) (by kernel_rfl) (by kernel_rfl) (by kernel_rfl) (fun _ _ _ h => h) (Or.inl ⟨by rfl, ?_⟩) ((And.intro x_c_p20 x_m_p20)) ?_
  rotate_left
  · intro wq hSq
    go_simp
    exact rfl
  try simp only [Act.put, List.setIfInBounds_toArray, List.set_cons_zero, List.set_cons_succ]
  refine wpAnyH_ready (rs := [4]) (by kernel_rfl) (by simp) (AllReadyH.cons rfl (fun K hK => ?_) AllReadyH.nil)
  go_simp
  refine (CB_l2b _).mono ?_
  rintro e Wp211 ⟨vb, rfl, hob, hbp211⟩
  have x_c_p211 : Box Wp211 (w.heap.size) (V) := Box.below x_c_p20 hbp211
  have x_m_p211 : Box Wp211 (Wp119.heap.size) (M2) := Box.below x_m_p20 hbp211
  have y_m_p211 := Ty.below y_m_p20 hbp211
  have o_r_p211 := Lib.hid (ownR_below o_r_p20.out hbp211)
  have Bp211 := below_thru Bp20 hbp211
  clear x_c_p20 x_m_p20 y_m_p20 o_r_p20 Bp20 hbp211
  have j_b_p2912 : Hid (IsL Wp211 .u8 (vb) (T_l2b)) := Lib.hid (IsL.own hob rfl)
  clear hob
  refine hK.out _ _ (And.intro x_c_p211 x_m_p211) (fun _ => ?_); clear hK K
  refine wpAnyH_ready (rs := [5]) (by kernel_rfl) (by simp) (AllReadyH.cons rfl (fun K hK => ?_) AllReadyH.nil)
  have zz13 : w.heap.size + 1 ≤ Wp211.heap.size := (x_c_p211).lt
  refine step_append_intsG 33 rfl rfl _ _ 62 rfl (w.heap.size + 1) 5 ti _ 1 .u8 Tryd.underlying62 hin hz0 hz1 hz2 rfl _ (34) _ rfl o_r_p211.out _ (T_l2b) rfl j_b_p2912.out (by unfold maxLen; rw [LB_l2b.out]; decide) (by rw [LB_l2b.out]; decide) zz13 ?_
  intro vp213 Wp213 hown hgr
  have hKB := (Below.refl (w.heap.size + 1) _).grown hgr zz13 (ownR_block o_r_p211.out)
  have x_c_p213 : Box Wp213 (w.heap.size) (V) := Box.keepR x_c_p211 hKB (by omega)
  obtain ⟨x_m_p213, y_m_p213⟩ := Box.grownT x_m_p211 y_m_p211 o_r_p211.out (by decide) hgr
  rw [LB_l2b.out, HQ9.out] at hown
  have o_r_p213 := Lib.hid hown
  have Bp213 := (Bp211).trans (hKB.mono (by omega))
  clear x_c_p211 y_m_p211 x_m_p211 o_r_p211 j_b_p2912 Bp211 hown hgr hKB zz13
  refine hK.out _ _ (And.intro x_c_p213 x_m_p213) (fun _ => ?_); clear hK K
  refine wpAnyH_ready (rs := [9]) (by kernel_rfl) (by simp) (AllReadyH.cons rfl (fun K hK => ?_) AllReadyH.nil)
  go_simp
  refine (CB_l2r _).mono ?_
  rintro e Wp214 ⟨vb, rfl, hob, hbp214⟩
  have x_c_p214 : Box Wp214 (w.heap.size) (V) := Box.below x_c_p213 hbp214
  have x_m_p214 : Box Wp214 (Wp119.heap.size) (M2) := Box.below x_m_p213 hbp214
  have y_m_p214 := Ty.below y_m_p213 hbp214
  have o_r_p214 := Lib.hid (ownR_below o_r_p213.out hbp214)
  have Bp214 := below_thru Bp213 hbp214
  clear x_c_p213 x_m_p213 y_m_p213 o_r_p213 Bp213 hbp214
  have j_b_p2915 : Hid (IsL Wp214 .u8 (vb) (T_l2r)) := Lib.hid (IsL.own hob rfl)
  clear hob
  refine hK.out _ _ (And.intro x_c_p214 x_m_p214) (fun _ => ?_); clear hK K
  refine wpAnyH_ready (rs := [10]) (by kernel_rfl) (by simp) (AllReadyH.cons rfl (fun K hK => ?_) AllReadyH.nil)
  have zz16 : w.heap.size + 1 ≤ Wp214.heap.size := (x_c_p214).lt
  refine step_append_intsG 38 rfl rfl _ _ 62 rfl (w.heap.size + 1) 5 ti _ 1 .u8 Tryd.underlying62 hin hz0 hz1 hz2 rfl _ (38) _ rfl o_r_p214.out _ (T_l2r) rfl j_b_p2915.out (by unfold maxLen; rw [LB_l2r.out]; decide) (by rw [LB_l2r.out]; decide) zz16 ?_
  intro vp216 Wp216 hown hgr
  have hKB := (Below.refl (w.heap.size + 1) _).grown hgr zz16 (ownR_block o_r_p214.out)
  have x_c_p216 : Box Wp216 (w.heap.size) (V) := Box.keepR x_c_p214 hKB (by omega)
  obtain ⟨x_m_p216, y_m_p216⟩ := Box.grownT x_m_p214 y_m_p214 o_r_p214.out (by decide) hgr
  rw [LB_l2r.out, HQ10.out] at hown
  have o_r_p216 := Lib.hid hown
  have Bp216 := (Bp214).trans (hKB.mono (by omega))
  clear x_c_p214 y_m_p214 x_m_p214 o_r_p214 j_b_p2915 Bp214 hown hgr hKB zz16
  refine hK.out _ _ (And.intro x_c_p216 x_m_p216) (fun _ => ?_); clear hK K
  refine wpAnyH_ready (rs := [14]) (by kernel_rfl) (by simp) (AllReadyH.cons rfl (fun K hK => ?_) AllReadyH.nil)
  go_simp
  refine (CB_l2p _).mono ?_
  rintro e Wp217 ⟨vb, rfl, hob, hbp217⟩
  have x_c_p217 : Box Wp217 (w.heap.size) (V) := Box.below x_c_p216 hbp217
  have x_m_p217 : Box Wp217 (Wp119.heap.size) (M2) := Box.below x_m_p216 hbp217
  have y_m_p217 := Ty.below y_m_p216 hbp217
  have o_r_p217 := Lib.hid (ownR_below o_r_p216.out hbp217)
  have Bp217 := below_thru Bp216 hbp217
  clear x_c_p216 x_m_p216 y_m_p216 o_r_p216 Bp216 hbp217
  have j_b_p2918 : Hid (IsL Wp217 .u8 (vb) (T_l2p)) := Lib.hid (IsL.own hob rfl)
  clear hob
  refine hK.out _ _ (And.intro x_c_p217 x_m_p217) (fun _ => ?_); clear hK K
  refine wpAnyH_ready (rs := [15]) (by kernel_rfl) (by simp) (AllReadyH.cons rfl (fun K hK => ?_) AllReadyH.nil)
  have zz19 : w.heap.size + 1 ≤ Wp217.heap.size := (x_c_p217).lt
  refine step_append_intsG 43 rfl rfl _ _ 62 rfl (w.heap.size + 1) 5 ti _ 1 .u8 Tryd.underlying62 hin hz0 hz1 hz2 rfl _ (42) _ rfl o_r_p217.out _ (T_l2p) rfl j_b_p2918.out (by unfold maxLen; rw [LB_l2p.out]; decide) (by rw [LB_l2p.out]; decide) zz19 ?_
  intro vp219 Wp219 hown hgr
  have hKB := (Below.refl (w.heap.size + 1) _).grown hgr zz19 (ownR_block o_r_p217.out)
  have x_c_p219 : Box Wp219 (w.heap.size) (V) := Box.keepR x_c_p217 hKB (by omega)
  obtain ⟨x_m_p219, y_m_p219⟩ := Box.grownT x_m_p217 y_m_p217 o_r_p217.out (by decide) hgr
  rw [LB_l2p.out, HQ11.out] at hown
  have o_r_p219 := Lib.hid hown
  have Bp219 := (Bp217).trans (hKB.mono (by omega))
  clear x_c_p217 y_m_p217 x_m_p217 o_r_p217 j_b_p2918 Bp217 hown hgr hKB zz19
  refine hK.out _ _ (And.intro x_c_p219 x_m_p219) (fun _ => ?_); clear hK K
  refine takeH 16 3 (v := ?vp216_20) rfl (by rfl) (by kernel_rfl) (by kernel_rfl) (by kernel_rfl) (fun _ _ _ h => h) (Or.inl ⟨by rfl, ?_⟩) ((And.intro x_c_p219 x_m_p219)) ?_
  rotate_left
  · intro wq hSq
    go_simp
    exact rfl
  try simp only [Act.put, List.setIfInBounds_toArray, List.set_cons_zero, List.set_cons_succ]
  refine wpAnyH_done (by kernel_rfl) ?_ _
  have hB8 := Bp219; have hs8 := hB8.size
  have x_c8 := x_c_p219
  have x_m8 := x_m_p219
  have Y_m8 := y_m_p219
  have O_r8 := o_r_p219
  clear Bp219 x_c_p219 x_m_p219 y_m_p219 o_r_p219
  clear Y_m8
  clear x_m8
  go_wp2_with fail
  rw [rounds_succ]
  go_upto_region 8 with fail
  refine wp_region_held_drew (S := fun W => Box W (w.heap.size) (V)) (by kernel_rfl) (x_c8).drew (fun _ => ?_)
  refine F_drew (F := fun W => wpAnyH _ _ _ _ _ _ _ _ W) ?_
  intro Wz0 hbz0
  clear hs8
  have x_c_z0 : Box Wz0 (w.heap.size) (V) := Box.below x_c8 hbz0
  have o_r_z0 := Lib.hid (ownR_below O_r8.out hbz0)
  have Bz0 := below_thru hB8 hbz0
  clear x_c8 O_r8 hB8 hbz0
  refine takeH 0 44 (v := ?vz0_1) rfl (by rfl) (by kernel_rfl) (by kernel_rfl) (by kernel_rfl) (fun _ _ _ h => h) (Or.inl ⟨by rfl, ?_⟩) (x_c_z0) ?_
  rotate_left
  · intro wq hSq
    go_simp
    exact rfl
  try simp only [Act.put, List.setIfInBounds_toArray, List.set_cons_zero, List.set_cons_succ]
  refine takeH 1 45 (v := ?vz1_2) rfl (by rfl) (by kernel_rfl) (by kernel_rfl) (by kernel_rfl) (fun _ _ _ h => h) (Or.inl ⟨by rfl, ?_⟩) (x_c_z0) ?_
  rotate_left
  · intro wq hSq
    go_simp
    exact rfl
  try simp only [Act.put, List.setIfInBounds_toArray, List.set_cons_zero, List.set_cons_succ]
  refine takeH 2 46 (v := ?vz2_3) rfl (by rfl) (by kernel_rfl) (by kernel_rfl) (by kernel_rfl) (fun _ _ _ h => h) (Or.inl ⟨by rfl, ?_⟩) (x_c_z0) ?_
  rotate_left
  · intro wq hSq
    have cq := (hSq).c 12 _ v12
    have zq := lt_of_cell cq
    go_simp
    exact rfl
  try simp only [Act.put, List.setIfInBounds_toArray, List.set_cons_zero, List.set_cons_succ]
  refine takeH 3 47 (v := ?vz3_4) rfl (by rfl) (by kernel_rfl) (by kernel_rfl) (by kernel_rfl) (fun _ _ _ h => h) (Or.inl ⟨by rfl, ?_⟩) (x_c_z0) ?_
  rotate_left
  · intro wq hSq
    go_simp
    exact rfl
  try simp only [Act.put, List.setIfInBounds_toArray, List.set_cons_zero, List.set_cons_succ]
  refine takeH 4 48 (v := ?vz4_5) rfl (by rfl) (by kernel_rfl) (by kernel_rfl) (by kernel_rfl) (fun _ _ _ h => h) (Or.inl ⟨by rfl, ?_⟩) (x_c_z0) ?_
  rotate_left
  · intro wq hSq
    have cq := (hSq).c 13 _ v13
    have zq := lt_of_cell cq
    go_simp
    exact rfl
  try simp only [Act.put, List.setIfInBounds_toArray, List.set_cons_zero, List.set_cons_succ]
  refine takeH 7 51 (v := ?vz7_6) rfl (by rfl) (by kernel_rfl) (by kernel_rfl) (by kernel_rfl) (fun _ _ _ h => h) (Or.inl ⟨by rfl, ?_⟩) (x_c_z0) ?_
  rotate_left
  · intro wq hSq
    go_simp
    exact rfl
  try simp only [Act.put, List.setIfInBounds_toArray, List.set_cons_zero, List.set_cons_succ]
  refine takeH 8 52 (v := ?vz8_7) rfl (by rfl) (by kernel_rfl) (by kernel_rfl) (by kernel_rfl) (fun _ _ _ h => h) (Or.inl ⟨by rfl, ?_⟩) (x_c_z0) ?_
  rotate_left
  · intro wq hSq
    have cq := (hSq).c 14 _ v14
    have zq := lt_of_cell cq
    go_simp
    exact rfl
  try simp only [Act.put, List.setIfInBounds_toArray, List.set_cons_zero, List.set_cons_succ]
  refine wpAnyH_ready (rs := [5]) (by kernel_rfl) (by simp) (AllReadyH.cons rfl (fun K hK => ?_) AllReadyH.nil)
  go_simp
  refine hK.out _ _ (Box.alloc x_c_z0 _) (fun _ => ?_); clear hK K
  refine F_gen (F := fun W => wpAnyH _ _ _ _ _ _ _ _ W) (J := fun W => Hid (IsL W .u8 (.slice (some ⟨Wz0.heap.size, 0, none⟩) 2 2) (T_ue)) ∧ Below Wz0.heap.size Wz0 W) (And.intro (Lib.hid ((by rw [HUE.out]; exact IsL.built [c.us, c.en] rfl rfl rfl rfl (by simp)))) ((Below.refl _ _).alloc (Nat.le_refl _) _)) ?_
  intro Wz8 ⟨na_b_z8, hbz8⟩
  have x_c_z8 : Box Wz8 (w.heap.size) (V) := Box.below x_c_z0 hbz8
  have o_r_z8 := Lib.hid (ownR_below o_r_z0.out hbz8)
  have Bz8 := below_thru Bz0 hbz8
  clear x_c_z0 o_r_z0 Bz0 hbz8
  refine wpAnyH_ready (rs := [6]) (by kernel_rfl) (by simp) (AllReadyH.cons rfl (fun K hK => ?_) AllReadyH.nil)
  have zz9 : w.heap.size + 1 ≤ Wz8.heap.size := (x_c_z8).lt
  refine step_append_intsG 50 rfl rfl _ _ 62 rfl (w.heap.size + 1) 5 ti _ 1 .u8 Tryd.underlying62 hin hz0 hz1 hz2 rfl _ (46) _ rfl o_r_z8.out _ (T_ue) rfl na_b_z8.out (by unfold maxLen; rw [LB_ue.out]; decide) (by rw [LB_ue.out]; decide) zz9 ?_
  intro vz9 Wz9 hown hgr
  have hKB := (Below.refl (w.heap.size + 1) _).grown hgr zz9 (ownR_block o_r_z8.out)
  have x_c_z9 : Box Wz9 (w.heap.size) (V) := Box.keepR x_c_z8 hKB (by omega)
  rw [LB_ue.out, HQ12.out] at hown
  have o_r_z9 := Lib.hid hown
  have Bz9 := (Bz8).trans (hKB.mono (by omega))
  clear x_c_z8 o_r_z8 na_b_z8 Bz8 hown hgr hKB zz9
  refine hK.out _ _ x_c_z9 (fun _ => ?_); clear hK K
  refine wpAnyH_ready (rs := [9]) (by kernel_rfl) (by simp) (AllReadyH.cons rfl (fun K hK => ?_) AllReadyH.nil)
  go_simp
  refine (CB_x _).mono ?_
  rintro e Wz10 ⟨vb, rfl, hob, hbz10⟩
  have x_c_z10 : Box Wz10 (w.heap.size) (V) := Box.below x_c_z9 hbz10
  have o_r_z10 := Lib.hid (ownR_below o_r_z9.out hbz10)
  have Bz10 := below_thru Bz9 hbz10
  clear x_c_z9 o_r_z9 Bz9 hbz10
  have j_b_z911 : Hid (IsL Wz10 .u8 (vb) (T_x)) := Lib.hid (IsL.own hob rfl)
  clear hob
  refine hK.out _ _ x_c_z10 (fun _ => ?_); clear hK K
  refine wpAnyH_ready (rs := [10]) (by kernel_rfl) (by simp) (AllReadyH.cons rfl (fun K hK => ?_) AllReadyH.nil)
  have zz12 : w.heap.size + 1 ≤ Wz10.heap.size := (x_c_z10).lt
  refine step_append_intsG 54 rfl rfl _ _ 62 rfl (w.heap.size + 1) 5 ti _ 1 .u8 Tryd.underlying62 hin hz0 hz1 hz2 rfl _ (48) _ rfl o_r_z10.out _ (T_x) rfl j_b_z911.out (by unfold maxLen; rw [LB_x.out]; decide) (by rw [LB_x.out]; decide) zz12 ?_
  intro vz12 Wz12 hown hgr
  have hKB := (Below.refl (w.heap.size + 1) _).grown hgr zz12 (ownR_block o_r_z10.out)
  have x_c_z12 : Box Wz12 (w.heap.size) (V) := Box.keepR x_c_z10 hKB (by omega)
  rw [LB_x.out, HQ13.out] at hown
  have o_r_z12 := Lib.hid hown
  have Bz12 := (Bz10).trans (hKB.mono (by omega))
  clear x_c_z10 o_r_z10 j_b_z911 Bz10 hown hgr hKB zz12
  refine hK.out _ _ x_c_z12 (fun _ => ?_); clear hK K
  refine takeH 11 2 (v := ?vz11_13) rfl (by rfl) (by kernel_rfl) (by kernel_rfl) (by kernel_rfl) (fun _ _ _ h => h) (Or.inl ⟨by rfl, ?_⟩) (x_c_z12) ?_
  rotate_left
  · intro wq hSq
    go_simp
    exact rfl
  try simp only [Act.put, List.setIfInBounds_toArray, List.set_cons_zero, List.set_cons_succ]
  refine wpAnyH_done (by kernel_rfl) ?_ _
  have ho := o_r_z12.out
  go_wp2_with fail
  go_returns
  exact ⟨vz12, rfl, ownR_base (by rw [ML.out]; exact ho) (by omega), Bz12⟩

end Go.Proofs.YtofjpeplgagihaaDoor
