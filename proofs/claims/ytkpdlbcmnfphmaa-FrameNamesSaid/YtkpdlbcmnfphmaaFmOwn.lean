/-
  Rows that grow beside boxes of other types; fields of numbers, the row of a command.
-/
import Derived.Test.YtkpdlbcmnfphmaaFmA
namespace Go.Proofs.Ytkpdlbcmnfphmaa
open Go.RowKit

/-- Of what type a block's cells are. -/
def Ty (w : World) (b : Nat) (T : TypeId) : Prop := ∃ cs fr, w.heap[b]? = some (.cells cs T fr)
theorem Ty.below {w w' : World} {b : Nat} {T : TypeId} (h : Ty w b T) (hb : Below w.heap.size w w') : Ty w' b T := by
  obtain ⟨cs, fr, h⟩ := h
  exact ⟨cs, fr, by rw [hb.block b (Array.getElem?_eq_some_iff.1 h).1]; exact h⟩
theorem Ty.newc {w : World} {b : Nat} {c : Array Value} {T : TypeId} (hb : b = w.heap.size) : Ty (w.alloc (.cells c T)) b T := by
  subst hb
  exact ⟨c, (0, 0), heap_alloc_new w _⟩
theorem Ty.alloc {w : World} {b : Nat} {T : TypeId} (h : Ty w b T) (o : Obj) : Ty (w.alloc o) b T := h.below ((Below.refl _ _).alloc (Nat.le_refl _) _)
theorem own_ne {w : World} {B e s : Nat} {T : TypeId} {v : Value} {n : Nat} {xs : List Value} {b : Nat} (hown : w.ownsRow B e s v n xs) (h : Ty w b T) (hTe : T ≠ e) : v.ownBlock ≠ some b := by
  obtain ⟨cs, fr, hb⟩ := h
  rcases hown.2 with ⟨rfl, _⟩ | ⟨g, cap, cur, rfl, _, hg, _⟩
  · simp [Value.ownBlock]
  · intro h
    simp only [Value.ownBlock, Option.some.injEq] at h
    subst h
    rw [hg] at hb
    simp only [Option.some.injEq, Obj.cells.injEq] at hb
    exact hTe hb.2.1.symm
/-- A box of another type than a row's elements is as it was when the row has grown. -/
theorem Box.grownT {w w' : World} {b B e s : Nat} {T : TypeId} {vs : List Value} {v : Value} {n : Nat} {xs : List Value} (h : Box w b vs) (hT : Ty w b T) (hown : w.ownsRow B e s v n xs) (hTe : T ≠ e) (hg : w.grownBy w' v.ownBlock) : Box w' b vs ∧ Ty w' b T := by
  have hk := hg.block b h.lt (fun q => own_ne hown hT hTe q.symm)
  refine ⟨⟨fun i v e => ?_, fun i v e => ?_, Nat.lt_of_lt_of_le h.lt hg.size⟩, ?_⟩
  · rw [World.cell?_of_block (a := ⟨b, i, none⟩) hk]
    exact h.c i v e
  · rw [World.frozen?_of_block (a := ⟨b, i, none⟩) hk]
    exact h.f i v e
  · obtain ⟨cs, fr, hb⟩ := hT
    exact ⟨cs, fr, by rw [hk]; exact hb⟩

theorem step_append_rowsd {P : Program} {w : World} {ops : Array Oper} {o : Oper} {a : Act} {K : Act → World → Prop} {Q : Exit → Act → World → Prop} {α : Type} {E : Prop} (d : Nat) (hd : o.dst = some d) (hgd : o.guard = none) (L : Lay α) (s x : Operand) (t : TypeId)
    (ho : o.op = .call { callee := .builtin .append, args := #[s, x], argTypes := #[t, t] })
    (base : Nat) (e : TypeId) (i : TypeInfo) (z : Value) (sz bytes : Nat) (hsz : L.s = sz) (ht : P.underlying t = some (.slice e)) (hi : P.info? e = some i) (hz : i.zero = some z)
    (hsize : i.size = sz) (hby : i.bytes = bytes) (hzs : z.cells.size = sz)
    (v : Value) (n : Nat) (l : List Value) (hs : a.eval s = v) (hown : w.ownsRow base e sz v n l)
    (v2 : Value) (xs : List α) (hx : a.eval x = v2) (hin : IsR L w v2 xs)
    (h63 : n + xs.length ≤ maxLen) (hbytes : (n + xs.length) * bytes ≤ 140737488355328) (hbase : base ≤ w.heap.size)
    (h : ∀ v' w', w'.ownsRow base e sz v' (n + xs.length) (l ++ flatR L xs) → Below base w w' → K (a.put (some d) v') w') : if Region.wanted o (yielded ops a.tmps) = true then Oper.wp P o a w K Q else E :=
  step_append_rows hgd L s x t ho base e i z sz bytes hsz ht hi hz hsize hby hzs v n l hs hown v2 xs hx hin h63 hbytes hbase (by rw [hd]; exact h)
/-- A field with a number. -/
def fdN (k n : Int) : Fd := if h : (0 ≤ k ∧ k ≤ 255) ∧ (0 ≤ n ∧ n ≤ 18446744073709551615) then Fd.num k n h.1 h.2 else Fd.zero
theorem fdN_is {k n : Int} (hk : 0 ≤ k ∧ k ≤ 255) (hn : 0 ≤ n ∧ n ≤ 18446744073709551615) : fdN k n = Fd.num k n hk hn := dif_pos ⟨hk, hn⟩
theorem fdN_v {k n : Int} (hk : 0 ≤ k ∧ k ≤ 255) (hn : 0 ≤ n ∧ n ≤ 18446744073709551615) : (fdN k n).v = fcell k n zeroD := by rw [fdN_is hk hn]; rfl
theorem fdN_bs {k n : Int} (hk : 0 ≤ k ∧ k ≤ 255) (hn : 0 ≤ n ∧ n ≤ 18446744073709551615) (h6 : k ≠ 6) : (fdN k n).bs = be (wid k) n := by
  rw [fdN_is hk hn]
  exact if_neg h6
theorem fdN_ok {k n : Int} (hk : 0 ≤ k ∧ k ≤ 255) (hn : 0 ≤ n ∧ n ≤ 18446744073709551615) (hw : wid k ≠ 0) (hg : n ≤ gre k) : (fdN k n).ok = true := by
  rw [fdN_is hk hn]
  exact num_ok hk hn hw hg
/-- The row of a command. -/
def crow (c : Cmd) : List Fd := [fdN 2 2, fdN 2 c.op, fdN 4 c.t, fdN 4 c.u, fdN 4 c.l0.b, fdN 4 c.l0.r, fdN 4 c.l0.p, fdN 4 c.l1.b, fdN 4 c.l1.r, fdN 4 c.l1.p, fdN 4 c.l2.b, fdN 4 c.l2.r, fdN 4 c.l2.p, fdN 2 c.us, fdN 2 c.en, fdN 5 c.x]
theorem k8 {n : Int} (h : 0 ≤ n ∧ n ≤ 255) : 0 ≤ n ∧ n ≤ 18446744073709551615 := by omega
theorem k32 {n : Int} (h : 0 ≤ n ∧ n ≤ 4294967295) : 0 ≤ n ∧ n ≤ 18446744073709551615 := by omega
theorem fd2_bs {n : Int} (h : 0 ≤ n ∧ n ≤ 255) : (fdN 2 n).bs = be 1 n := fdN_bs (by decide) (k8 h) (by decide)
theorem fd4_bs {n : Int} (h : 0 ≤ n ∧ n ≤ 4294967295) : (fdN 4 n).bs = be 4 n := fdN_bs (by decide) (k32 h) (by decide)
theorem fd5_bs {n : Int} (h : 0 ≤ n ∧ n ≤ 18446744073709551615) : (fdN 5 n).bs = be 8 n := fdN_bs (by decide) h (by decide)
theorem fd2_ok {n : Int} (h : 0 ≤ n ∧ n ≤ 255) : (fdN 2 n).ok = true := fdN_ok (by decide) (k8 h) (by decide) h.2
theorem fd4_ok {n : Int} (h : 0 ≤ n ∧ n ≤ 4294967295) : (fdN 4 n).ok = true := fdN_ok (by decide) (k32 h) (by decide) h.2
theorem fd5_ok {n : Int} (h : 0 ≤ n ∧ n ≤ 18446744073709551615) : (fdN 5 n).ok = true := fdN_ok (by decide) h (by decide) h.2
theorem two8 : (0 : Int) ≤ 2 ∧ (2 : Int) ≤ 255 := by decide
theorem crow_b {c : Cmd} (h : c.wd) : rowB (crow c) = c.msg := by
  obtain ⟨⟨a0, a1, a2⟩, ⟨b0, b1, b2⟩, ⟨c0, c1, c2⟩⟩ := h
  unfold rowB crow Cmd.msg wsC Cmd.ns
  simp only [List.flatMap_cons, List.flatMap_nil, fd2_bs two8, fd2_bs c.hop, fd4_bs c.ht, fd4_bs c.hu, fd4_bs a0, fd4_bs a1, fd4_bs a2, fd4_bs b0, fd4_bs b1, fd4_bs b2, fd4_bs c0, fd4_bs c1, fd4_bs c2, fd2_bs c.hus, fd2_bs c.hen, fd5_bs c.hx, beL]
theorem crow_all {c : Cmd} (h : c.wd) : ∀ f ∈ crow c, f.ok = true := by
  obtain ⟨⟨a0, a1, a2⟩, ⟨b0, b1, b2⟩, ⟨c0, c1, c2⟩⟩ := h
  intro f hf
  unfold crow at hf
  simp only [List.mem_cons, List.not_mem_nil, or_false] at hf
  rcases hf with rfl | rfl | rfl | rfl | rfl | rfl | rfl | rfl | rfl | rfl | rfl | rfl | rfl | rfl | rfl | rfl
  · exact fd2_ok two8
  · exact fd2_ok c.hop
  · exact fd4_ok c.ht
  · exact fd4_ok c.hu
  · exact fd4_ok a0
  · exact fd4_ok a1
  · exact fd4_ok a2
  · exact fd4_ok b0
  · exact fd4_ok b1
  · exact fd4_ok b2
  · exact fd4_ok c0
  · exact fd4_ok c1
  · exact fd4_ok c2
  · exact fd2_ok c.hus
  · exact fd2_ok c.hen
  · exact fd5_ok c.hx
theorem crow_e {c : Cmd} (h : c.wd) : rowE (crow c) = 0 := rowE_ok (by show 16 ≤ 40; decide) (crow_all h)
/-- The field of a digest. -/
def fdD (g : List Int) (hg : g.length = 32) (hb : Byts g) : Fd := ⟨6, 0, g, by decide, by decide, hg, hb⟩
theorem fdD_ok {g : List Int} (hg : g.length = 32) (hb : Byts g) : (fdD g hg hb).ok = true := by
  unfold Fd.ok fdD
  simp [wid, gre]
/-- The row of a command with its Tag. -/
def grow9 (c : Cmd) : List Fd := crow c ++ [fdD c.g c.hg c.hgb]
theorem grow9_e {c : Cmd} (h : c.wd) : rowE (grow9 c) = 0 := rowE_ok (by show 17 ≤ 40; decide) (fun f hf => by
  rcases List.mem_append.1 hf with q | q
  · exact crow_all h f q
  · simp at q
    rw [q]
    exact fdD_ok c.hg c.hgb)
theorem grow9_b {c : Cmd} (h : c.wd) : rowB (grow9 c) = c.msg ++ c.g := by
  unfold grow9
  rw [rowB_app, crow_b h, rowB_cons, rowB_nil, List.append_nil]
  rfl
def kin9 : List Int := [2, 2, 4, 4, 4, 4, 4, 4, 4, 4, 4, 4, 4, 2, 2, 5, 6]
theorem fdN_k {k n : Int} (hk : 0 ≤ k ∧ k ≤ 255) (hn : 0 ≤ n ∧ n ≤ 18446744073709551615) : (fdN k n).k = k := by rw [fdN_is hk hn]; rfl
theorem fd2_k {n : Int} (h : 0 ≤ n ∧ n ≤ 255) : (fdN 2 n).k = 2 := fdN_k (by decide) (k8 h)
theorem fd4_k {n : Int} (h : 0 ≤ n ∧ n ≤ 4294967295) : (fdN 4 n).k = 4 := fdN_k (by decide) (k32 h)
theorem fd5_k {n : Int} (h : 0 ≤ n ∧ n ≤ 18446744073709551615) : (fdN 5 n).k = 5 := fdN_k (by decide) h
theorem grow9_k {c : Cmd} (h : c.wd) : (grow9 c).map Fd.k = kin9 := by
  obtain ⟨⟨a0, a1, a2⟩, ⟨b0, b1, b2⟩, ⟨c0, c1, c2⟩⟩ := h
  unfold grow9 crow kin9
  simp only [List.cons_append, List.nil_append, List.map_cons, List.map_nil, fd2_k two8, fd2_k c.hop, fd4_k c.ht, fd4_k c.hu, fd4_k a0, fd4_k a1, fd4_k a2, fd4_k b0, fd4_k b1, fd4_k b2, fd4_k c0, fd4_k c1, fd4_k c2, fd2_k c.hus, fd2_k c.hen, fd5_k c.hx]
  rfl
theorem crow_k {c : Cmd} (h : c.wd) : (crow c).map Fd.k = kin9.take 16 := by
  have := congrArg (List.take 16) (grow9_k h)
  rw [← List.map_take] at this
  exact this
theorem rea9 {c : Cmd} (h : c.wd) : reaE kin9 (c.msg ++ c.g) = 0 ∧ reaF kin9 (c.msg ++ c.g) = grow9 c := by
  have := rea_of (grow9_e h)
  rwa [grow9_k h, grow9_b h] at this

end Go.Proofs.Ytkpdlbcmnfphmaa
