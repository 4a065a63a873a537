/-
  Laws of the walk that name nothing of the program's packages (gathered from the texts of earlier layers by pick.py).
-/
import Derived.Test.YtjhlpkkefdohjaaRws
import Derived.Test.YtjhlpkkefdohjaaPart
import Derived.Test.YtjhlpkkefdohjaaBuildN
import Derived.Test.YtjhlpkkefdohjaaMacR
import Derived.Test.YtjhlpkkefdohjaaFlat
import Derived.Test.YtjhlpkkefdohjaaSlicesB
import Derived.Laws.MakeOwn
import Derived.Lib.SliceRun
import Derived.SizedLaws
namespace Go.Proofs.Ytjhlpkkefdohjaa
open Go.ChangeShapes Go.WideShapes Go.ChangeAt Go.RowKit Go.Joins

theorem cellsU32 : Try.prog.cellsOf 64 = 1 := by kernel_rfl
theorem bounds_u32 {n : Int} (h : (Lit.int .u32 n).wf = true) : 0 ≤ n ∧ n ≤ 4294967295 := by
  have h1 : IntKind.u32.min ≤ n ∧ n ≤ IntKind.u32.max := by simpa [Lit.wf] using h
  have e1 : IntKind.u32.min = 0 := rfl
  have e2 : IntKind.u32.max = 4294967295 := rfl
  omega
set_option maxRecDepth 100000 in
theorem eqF_cons {P : Program} {w : World} {d : Nat} {xs ys : Array Value} {f : Field} {fs : List Field} {a b : Value} {r : Bool} (hn : f.name ≠ "_") (ha : (Go.part f.type xs f.offset).run P w = .ok a w) (hb : (Go.part f.type ys f.offset).run P w = .ok b w)
    (hr : (Op.equalIn d f.type a b).run P w = .ok r w) : (Op.eqFields d xs ys (f :: fs)).run P w = if r = true then (Op.eqFields d xs ys fs).run P w else .ok false w := by
  rw [Op.eqFields, if_pos hn]
  simp only [Sem.run_bind, ha, hb, hr, Result.andThen_ok]
  cases r
  · rfl
  · rfl
theorem and_run {w : World} {r s : Bool} {x : Result Bool} (h : x = .ok s w) : (if r = true then x else .ok false w) = .ok (r && s) w := by
  cases r
  · rfl
  · exact h
section
variable {P : Program} {ops : Array Oper} {o : Oper} {a : Act} {w : World} {K : Act → World → Prop} {Q : Exit → Act → World → Prop} {E : Prop}
theorem step_bsliceH (d : Nat) (hd : o.dst = some d) (hgd : o.guard = none) (t : TypeId) (n : Nat) (xs : Array (Nat × Operand)) (ho : o.op = .buildSlice t n xs) {v : Value} {us : Array (Nat × Value)} {w' : World} (hx' : (xs.toList.map fun p => (p.1, a.eval p.2)) = us.toList) (hr : (Instr.buildSlice t n us).run P w = .ok v w')
    (h : K (a.put (some d) v) w') : if Region.wanted o (yielded ops a.tmps) = true then Oper.wp P o a w K Q else E := by
  rw [if_pos (by simp [Region.wanted, hgd])]
  exact wp_bsliceN t n xs ho hx' hr (by rw [hd]; exact h)
end
theorem F_both {F J J2 : World → Prop} {w : World} (h1 : J w) (h2 : J2 w) (h : ∀ W, J W → J2 W → F W) : F w := h _ h1 h2
theorem yieldsIf_build {P : Program} {ops : Array Oper} {S : World → Prop} {op : Oper} {a : Act} (hw : Region.wanted op (yielded ops a.tmps) = true) (t : TypeId) (xs : Array (Nat × Operand)) (ho : op.op = .build t xs) {us : Array (Nat × Value)} {v : Value}
    (hx : (xs.toList.map fun p => (p.1, a.eval p.2)) = us.toList) (hr : ∀ W, (Instr.build t us).run P W = .ok v W) : YieldsIf P ops S op v a :=
  .inl ⟨hw, fun w _ => by
    have hx' : (xs.map fun (i, x) => (i, a.eval x)) = us := by
      apply Array.ext'
      rw [Array.toList_map, ← hx]
    subst hx'
    unfold execOp
    simp only [ho, Sem.run_bind, hr, Result.andThen_ok, Sem.run_pure]⟩
theorem Box.keepR {w w' : World} {b B : Nat} {vs : List Value} (h : Box w b vs) (hb : Below B w w') (hB : b < B) : Box w' b vs := by
  have hh := hb.block b hB
  exact ⟨fun i v e => by have := h.c i v e; simpa [World.cell?, hh] using this, fun i v e => by have := h.f i v e; simpa [World.frozen?, hh] using this, Nat.lt_of_lt_of_le h.lt hb.size⟩
theorem Box.upR {w w' : World} {b B : Nat} {vs : List Value} (h : Box w b vs) (hb : Below B w w') (hB : b < B) : Box w' b vs ∧ b < w'.heap.size := ⟨h.keepR hb hB, (h.keepR hb hB).lt⟩
theorem step_append_ints {P : Program} {w : World} {ops : Array Oper} {o : Oper} {a : Act} {K : Act → World → Prop} {Q : Exit → Act → World → Prop} {E : Prop} (d : Nat) (hd : o.dst = some d) (hgd : o.guard = none) (s x : Operand) (t : TypeId)
    (ho : o.op = .call { callee := .builtin .append, args := #[s, x], argTypes := #[t, t] })
    (base : Nat) (e : TypeId) (i : TypeInfo) (z : Value) (bytes : Nat) (k : IntKind) (ht : P.underlying t = some (.slice e)) (hi : P.info? e = some i) (hz : i.zero = some z)
    (hsize : i.size = 1) (hby : i.bytes = bytes) (hzs : z.cells.size = 1)
    (v : Value) (n : Nat) (l : List Value) (hs : a.eval s = v) (hown : w.ownsRow base e 1 v n l)
    (v2 : Value) (xs : List Int) (hx : a.eval x = v2) (hin : IsL w k v2 xs)
    (h63 : n + xs.length ≤ maxLen) (hbytes : (n + xs.length) * bytes ≤ 140737488355328) (hbase : base ≤ w.heap.size)
    (h : ∀ v' w', w'.ownsRow base e 1 v' (n + xs.length) (l ++ xs.map (Value.int k)) → Below base w w' → K (a.put (some d) v') w') : if Region.wanted o (yielded ops a.tmps) = true then Oper.wp P o a w K Q else E := by
  rw [if_pos (by simp [Region.wanted, hgd])]
  obtain ⟨at0, cap, rfl, h2, h0⟩ := hin
  exact wp_append_ints s x t ho base e i z bytes k ht hi hz hsize hby hzs v n l hs hown at0 cap xs hx h2 h0 h63 hbytes hbase fun v' w' h1 h2 => by rw [hd]; exact h v' w' h1 ((Below.refl _ w).grown h2 hbase (own_block hown))
theorem fitU8 {n : Int} (h : 0 ≤ n ∧ n ≤ 255) : FitC .u8 (.int .u8 n) := ⟨n, rfl, wf_of h⟩
theorem fitU16 {n : Int} (h : 0 ≤ n ∧ n ≤ 65535) : FitC .u16 (.int .u16 n) := ⟨n, rfl, wf_of h⟩
theorem fitU32 {n : Int} (h : 0 ≤ n ∧ n ≤ 4294967295) : FitC .u32 (.int .u32 n) := ⟨n, rfl, wf_of h⟩
theorem fitU64 {n : Int} (h : 0 ≤ n ∧ n ≤ 18446744073709551615) : FitC .u64 (.int .u64 n) := ⟨n, rfl, wf_of h⟩
theorem fitI64 {n : Int} (h : -9223372036854775808 ≤ n ∧ n ≤ 9223372036854775807) : FitC .i64 (.int .i64 n) := ⟨n, rfl, wf_of h⟩
theorem b8 {n : Int} (h : (Lit.int .u8 n).wf = true) : 0 ≤ n ∧ n ≤ 255 := wf_inv h
theorem b16 {n : Int} (h : (Lit.int .u16 n).wf = true) : 0 ≤ n ∧ n ≤ 65535 := wf_inv h
theorem b32 {n : Int} (h : (Lit.int .u32 n).wf = true) : 0 ≤ n ∧ n ≤ 4294967295 := wf_inv h
theorem b64 {n : Int} (h : (Lit.int .u64 n).wf = true) : 0 ≤ n ∧ n ≤ 18446744073709551615 := wf_inv h
theorem bi64 {n : Int} (h : (Lit.int .i64 n).wf = true) : -9223372036854775808 ≤ n ∧ n ≤ 9223372036854775807 := wf_inv h
theorem fit_one : ∀ {ks : List IntKind} {cs : List Value}, Fit ks cs → ∀ u ∈ cs, u.oneCell' = true
  | [], [], _, _, h => by cases h
  | _ :: _, _ :: _, ⟨⟨n, e, _⟩, h2⟩, u, hu => by
    rcases List.mem_cons.1 hu with q | q
    · rw [q, e]; rfl
    · exact fit_one h2 u q
  | [], _ :: _, h, _, _ => h.elim
  | _ :: _, [], h, _, _ => h.elim
theorem Box.rangeMid {w : World} {b : Nat} {vs : List Value} (h : Box w b vs) (k : Nat) (cs rest : List Value) (he : vs.drop k = cs ++ rest) : w.rangeAt b k cs := fun j v e => by
  have e2 : (vs.drop k)[j]? = some v := by
    rw [he, List.getElem?_append_left (List.getElem?_eq_some_iff.1 e).1]
    exact e
  rw [List.getElem?_drop] at e2
  exact h.c (k + j) v e2
theorem F_gen {F J : World → Prop} {w : World} (h1 : J w) (h : ∀ W, J W → F W) : F w := h _ h1
section
variable {P : Program} {ops : Array Oper} {rest : List Oper} {o : Oper} {a : Act} {w : World} {K : Act → World → Prop} {Q : Exit → Act → World → Prop} {E : Prop}
theorem wpList_load_box9 (hw : Region.wanted o (yielded ops a.tmps) = true) (ty : TypeId) (x : Operand) (ho : o.op = .load ty x) {b : Nat} {cs : List Value} (hb : Box w b cs) (hx : a.eval x = .pointer (some ⟨b, 0, none⟩)) {d : TypeDesc}
    (hu : P.underlying ty = some d) (hd : d.isRow = true) (hi : (P.info? ty).map (·.size) = some cs.length)
    (h : wpList P ops Q rest (a.put o.dst (.agg cs.toArray)) w) : wpList P ops Q (o :: rest) a w :=
  wpList_load_rangew hw ty x ho hb.range hx hu hd hi h
theorem wpList_build9 (hw : Region.wanted o (yielded ops a.tmps) = true) (t : TypeId) (xs : Array (Nat × Operand)) (ho : o.op = .build t xs) {v : Value} {us : Array (Nat × Value)} (hx : (xs.toList.map fun p => (p.1, a.eval p.2)) = us.toList) (hr : (Instr.build t us).run P w = .ok v w)
    (h : wpList P ops Q rest (a.put o.dst v) w) : wpList P ops Q (o :: rest) a w := by
  have hx' : (xs.map fun (i, x) => (i, a.eval x)) = us := by
    apply Array.ext'
    rw [Array.toList_map, ← hx]
  subst hx'
  refine BigFrame.wpList_want hw fun _ hK => ?_
  unfold Oper.wp execOp
  simp only [ho, Sem.run_bind, hr, Result.andThen_ok, Sem.run_pure]
  exact hK _ _ h
theorem step_store_part0 (hgd : o.guard = none) (hd : o.dst = none) (ty : TypeId) (x y : Operand) (ho : o.op = .store ty x y) {b k : Nat} {us cs ws : List Value} (hb : Box w b us) (hx : a.eval x = .pointer (some ⟨b, k, none⟩)) (hy : a.eval y = .agg cs.toArray)
    (hi : (P.info? ty).map (·.size) = some cs.length) (hk : k + cs.length ≤ us.length) (hw : ws = us.take k ++ cs ++ us.drop (k + cs.length)) (h1 : cs.toArray.all (·.oneCell') = true)
    (hK : ∀ W, Stored w b ws W → K a W) : if Region.wanted o (yielded ops a.tmps) = true then Oper.wp P o a w K Q else E := by
  rw [if_pos (by simp [Region.wanted, hgd])]
  exact wp_store_mid ty x y ho b k cs.toArray hx hy (by simpa using hb.thereAt k cs.length hk) (by simpa using hi) h1 (by rw [hd]; exact hK _ (Stored.part hb hk hw))
theorem run_storeVar_cell (b k : Nat) (ty : TypeId) {v : Value} (hv : v.cells = #[v]) (hv2 : v.oneCell' = true) (ht : w.there b k 1) (hi : (P.info? ty).map (·.size) = some 1) : (storeVar ty ⟨b, k, none⟩ v).run P w = .ok () (w.setCells b k [v]) := by
  have := run_storeCells_cells (P := P) b k [v] 0 w (fun j hj => by simpa using (ht j (by simpa using hj)).1) (fun j hj => by simpa using (ht j (by simpa using hj)).2) (fun u hu => by simp at hu; rw [hu]; exact hv2)
  cases hq : P.info? ty with
  | none => simp [hq] at hi
  | some i =>
    have hs : i.size = 1 := by simpa [hq] using hi
    simp only [Nat.add_zero] at this
    simp [storeVar, sizeOf, typeInfo, hq, hv, hs, this]
theorem wp_store_cell (ty : TypeId) (x y : Operand) (ho : o.op = .store ty x y) {b k : Nat} {us ws : List Value} {v : Value} (hb : Box w b us) (hx : a.eval x = .pointer (some ⟨b, k, none⟩)) (hy : a.eval y = v) (hv : v.cells = #[v]) (hv2 : v.oneCell' = true)
    (hi : (P.info? ty).map (·.size) = some 1) (hk : k < us.length) (hw : ws = us.set k v) (h : ∀ W, Stored w b ws W → K (a.put o.dst undef) W) : o.wp P a w K Q := by
  unfold Oper.wp execOp
  simp only [ho, hx, hy, Instr.storeAt, Instr.sureAddr, Sem.run_bind, Sem.run_pure, Result.andThen_ok, run_storeVar_cell b k ty hv hv2 (hb.thereAt k 1 (by omega)) hi]
  refine h _ (Stored.part hb (by simp; omega) ?_)
  rw [hw, List.set_eq_take_append_cons_drop, if_pos hk]
  simp
theorem step_store_cell0 (hgd : o.guard = none) (hd : o.dst = none) (ty : TypeId) (x y : Operand) (ho : o.op = .store ty x y) {b k : Nat} {us ws : List Value} {v : Value} (hb : Box w b us) (hx : a.eval x = .pointer (some ⟨b, k, none⟩)) (hy : a.eval y = v) (hv : v.cells = #[v]) (hv2 : v.oneCell' = true)
    (hi : (P.info? ty).map (·.size) = some 1) (hk : k < us.length) (hw : ws = us.set k v) (hK : ∀ W, Stored w b ws W → K a W) : if Region.wanted o (yielded ops a.tmps) = true then Oper.wp P o a w K Q else E := by
  rw [if_pos (by simp [Region.wanted, hgd])]
  exact wp_store_cell ty x y ho hb hx hy hv hv2 hi hk hw (by rw [hd]; exact hK)
theorem wpList_store_cell (hgd : o.guard = none) (ty : TypeId) (x y : Operand) (ho : o.op = .store ty x y) {b k : Nat} {us ws : List Value} {v : Value} (hb : Box w b us) (hx : a.eval x = .pointer (some ⟨b, k, none⟩)) (hy : a.eval y = v) (hv : v.cells = #[v]) (hv2 : v.oneCell' = true)
    (hi : (P.info? ty).map (·.size) = some 1) (hk : k < us.length) (hw : ws = us.set k v) (h : ∀ W, Stored w b ws W → wpList P ops Q rest (a.put o.dst undef) W) : wpList P ops Q (o :: rest) a w :=
  wpList_plain hgd fun _ hK => wp_store_cell ty x y ho hb hx hy hv hv2 hi hk hw fun W hW => hK _ _ (h W hW)
end
/-- Of what type a block's cells are. -/
def Ty (w : World) (b : Nat) (T : TypeId) : Prop := ∃ cs fr, w.heap[b]? = some (.cells cs T fr)
theorem Ty.below {w w' : World} {b : Nat} {T : TypeId} (h : Ty w b T) (hb : Below w.heap.size w w') : Ty w' b T := by
  obtain ⟨cs, fr, h⟩ := h
  exact ⟨cs, fr, by rw [hb.block b (Array.getElem?_eq_some_iff.1 h).1]; exact h⟩
theorem Ty.newc {w : World} {b : Nat} {c : Array Value} {T : TypeId} (hb : b = w.heap.size) : Ty (w.alloc (.cells c T)) b T := by
  subst hb
  exact ⟨c, (0, 0), heap_alloc_new w _⟩
theorem Ty.alloc {w : World} {b : Nat} {T : TypeId} (h : Ty w b T) (o : Obj) : Ty (w.alloc o) b T := h.below ((Below.refl _ _).alloc (Nat.le_refl _) _)
theorem own_ne {w : World} {B e s : Nat} {T : TypeId} {v : Value} {n : Nat} {xs : List Value} {b : Nat} (hown : w.ownsRow B e s v n xs) (h : Ty w b T) (hTe : T ≠ e) : v.ownBlock ≠ some b := by
  obtain ⟨cs, fr, hb⟩ := h
  rcases hown.2 with ⟨rfl, _⟩ | ⟨g, cap, cur, rfl, _, hg, _⟩
  · simp [Value.ownBlock]
  · intro h
    simp only [Value.ownBlock, Option.some.injEq] at h
    subst h
    rw [hg] at hb
    simp only [Option.some.injEq, Obj.cells.injEq] at hb
    exact hTe hb.2.1.symm
/-- A box of another type than a row's elements is as it was when the row has grown. -/
theorem Box.grownT {w w' : World} {b B e s : Nat} {T : TypeId} {vs : List Value} {v : Value} {n : Nat} {xs : List Value} (h : Box w b vs) (hT : Ty w b T) (hown : w.ownsRow B e s v n xs) (hTe : T ≠ e) (hg : w.grownBy w' v.ownBlock) : Box w' b vs ∧ Ty w' b T := by
  have hk := hg.block b h.lt (fun q => own_ne hown hT hTe q.symm)
  refine ⟨⟨fun i v e => ?_, fun i v e => ?_, Nat.lt_of_lt_of_le h.lt hg.size⟩, ?_⟩
  · rw [World.cell?_of_block (a := ⟨b, i, none⟩) hk]
    exact h.c i v e
  · rw [World.frozen?_of_block (a := ⟨b, i, none⟩) hk]
    exact h.f i v e
  · obtain ⟨cs, fr, hb⟩ := hT
    exact ⟨cs, fr, by rw [hk]; exact hb⟩
theorem step_append_rowsd {P : Program} {w : World} {ops : Array Oper} {o : Oper} {a : Act} {K : Act → World → Prop} {Q : Exit → Act → World → Prop} {α : Type} {E : Prop} (d : Nat) (hd : o.dst = some d) (hgd : o.guard = none) (L : Lay α) (s x : Operand) (t : TypeId)
    (ho : o.op = .call { callee := .builtin .append, args := #[s, x], argTypes := #[t, t] })
    (base : Nat) (e : TypeId) (i : TypeInfo) (z : Value) (sz bytes : Nat) (hsz : L.s = sz) (ht : P.underlying t = some (.slice e)) (hi : P.info? e = some i) (hz : i.zero = some z)
    (hsize : i.size = sz) (hby : i.bytes = bytes) (hzs : z.cells.size = sz)
    (v : Value) (n : Nat) (l : List Value) (hs : a.eval s = v) (hown : w.ownsRow base e sz v n l)
    (v2 : Value) (xs : List α) (hx : a.eval x = v2) (hin : IsR L w v2 xs)
    (h63 : n + xs.length ≤ maxLen) (hbytes : (n + xs.length) * bytes ≤ 140737488355328) (hbase : base ≤ w.heap.size)
    (h : ∀ v' w', w'.ownsRow base e sz v' (n + xs.length) (l ++ flatR L xs) → Below base w w' → K (a.put (some d) v') w') : if Region.wanted o (yielded ops a.tmps) = true then Oper.wp P o a w K Q else E :=
  step_append_rows hgd L s x t ho base e i z sz bytes hsz ht hi hz hsize hby hzs v n l hs hown v2 xs hx hin h63 hbytes hbase (by rw [hd]; exact h)
theorem size_u8n : (Try.prog.info? 5).map (·.size) = some 1 := by kernel_rfl
theorem size_u32n : (Try.prog.info? 64).map (·.size) = some 1 := by kernel_rfl
theorem size_u64n : (Try.prog.info? 67).map (·.size) = some 1 := by kernel_rfl
theorem own_sl9 {w : World} {B e : Nat} {v : Value} {n : Nat} {l : List Value} (h : w.ownsRow B e 1 v n l) : ∃ a c, v = .slice a n c := by
  rcases h.2 with ⟨rfl, rfl⟩ | ⟨g, cap, cur, rfl, _⟩
  · exact ⟨none, 0, rfl⟩
  · exact ⟨_, _, rfl⟩
theorem own_box {w : World} {B e s : Nat} {v : Value} {n : Nat} {xs : List Value} (h : w.ownsRow B e s v n xs) (hn : 0 < n) : ∃ g c, v = .slice (some ⟨g, 0, none⟩) n c ∧ B ≤ g ∧ n ≤ c ∧ c ≤ 9223372036854775807 ∧ Box w g xs := by
  have hl := h.1
  rcases h.2 with ⟨_, rfl⟩ | ⟨g, cap, cur, rfl, hb, hg, h1, h2, _⟩
  · omega
  · refine ⟨g, cap, rfl, hb, h1, h2, ⟨fun i v e => ?_, fun i v e => ?_, (Array.getElem?_eq_some_iff.1 hg).1⟩⟩
    · rw [h.cellAt i (by rw [← hl]; exact (List.getElem?_eq_some_iff.1 e).1)]
      exact e
    · exact h.frozenAt i
theorem IsR.ofBoxc {α : Type} {L : Lay α} {w : World} {b n c : Nat} {V : List Value} {xs : List α} (h : Box w b V) (hV : V = flatR L xs) (hn : n = xs.length) (h1 : n ≤ c) (h2 : c ≤ 9223372036854775807) : IsR L w (.slice (some ⟨b, 0, Option.none⟩) n c) xs := by
  subst hn hV
  refine ⟨_, c, rfl, h1, h2, fun _ => ⟨b, 0, rfl, fun i x hi j v hv => ?_⟩, fun q => by cases q⟩
  rw [Nat.zero_add]
  exact h.c _ _ (flatR_at hi hv)
theorem iff_t {p q : Prop} {b : Bool} (h : p ↔ q) (hb : p ↔ b = true) : q ↔ b = true := h.symm.trans hb
theorem Ty.setCell {w : World} {b : Nat} {T : TypeId} (h : Ty w b T) (a : Addr) (v : Value) : Ty (w.setCell a v) b T := by
  obtain ⟨cs, fr, h⟩ := h
  by_cases q : b = a.block
  · refine ⟨if a.spot.isSome then cs else cs.setIfInBounds a.off v, fr, ?_⟩
    simp [World.setCell, Array.getElem?_modify, ← q, h]
  · exact ⟨cs, fr, by rw [heap_setCell_other w a b v q]; exact h⟩
theorem Ty.setCells {b : Nat} {T : TypeId} (g : Nat) : ∀ (vs : List Value) (o : Nat) (w : World), Ty w b T → Ty (w.setCells g o vs) b T
  | [], _, _, h => h
  | v :: vs, o, _, h => Ty.setCells g vs (o + 1) _ (h.setCell ⟨g, o, none⟩ v)
theorem wpList_store_boxT {P : Program} {ops : Array Oper} {rest : List Oper} {o : Oper} {a : Act} {w : World} {Q : Exit → Act → World → Prop} (hgd : o.guard = none) (ty : TypeId) (x y : Operand) (ho : o.op = .store ty x y) {b : Nat} {us cs : List Value} (hb : Box w b us) (hx : a.eval x = .pointer (some ⟨b, 0, none⟩)) (hy : a.eval y = .agg cs.toArray)
    (hi : (P.info? ty).map (·.size) = some cs.length) (hl : us.length = cs.length) (h1 : cs.toArray.all (·.oneCell') = true)
    (h : ∀ W, Stored w b cs W → (∀ T, Ty w b T → Ty W b T) → wpList P ops Q rest (a.put o.dst undef) W) : wpList P ops Q (o :: rest) a w :=
  wpList_store_mid hgd ty x y ho b 0 cs.toArray hx hy (by have := hb.there; rw [hl] at this; simpa using this) (by simpa using hi) h1 (h _ (Stored.mk' hb hl) (fun T hT => Ty.setCells b _ _ _ hT))
theorem step_append_intsG {P : Program} {w : World} {ops : Array Oper} {o : Oper} {a : Act} {K : Act → World → Prop} {Q : Exit → Act → World → Prop} {E : Prop} (d : Nat) (hd : o.dst = some d) (hgd : o.guard = none) (s x : Operand) (t : TypeId)
    (ho : o.op = .call { callee := .builtin .append, args := #[s, x], argTypes := #[t, t] })
    (base : Nat) (e : TypeId) (i : TypeInfo) (z : Value) (bytes : Nat) (k : IntKind) (ht : P.underlying t = some (.slice e)) (hi : P.info? e = some i) (hz : i.zero = some z)
    (hsize : i.size = 1) (hby : i.bytes = bytes) (hzs : z.cells.size = 1)
    (v : Value) (n : Nat) (l : List Value) (hs : a.eval s = v) (hown : w.ownsRow base e 1 v n l)
    (v2 : Value) (xs : List Int) (hx : a.eval x = v2) (hin : IsL w k v2 xs)
    (h63 : n + xs.length ≤ maxLen) (hbytes : (n + xs.length) * bytes ≤ 140737488355328) (hbase : base ≤ w.heap.size)
    (h : ∀ v' w', w'.ownsRow base e 1 v' (n + xs.length) (l ++ xs.map (Value.int k)) → w.grownBy w' v.ownBlock → K (a.put (some d) v') w') : if Region.wanted o (yielded ops a.tmps) = true then Oper.wp P o a w K Q else E := by
  rw [if_pos (by simp [Region.wanted, hgd])]
  obtain ⟨at0, cap, rfl, h2, h0⟩ := hin
  exact wp_append_ints s x t ho base e i z bytes k ht hi hz hsize hby hzs v n l hs hown at0 cap xs hx h2 h0 h63 hbytes hbase fun v' w' h1 h2 => by rw [hd]; exact h v' w' h1 h2
theorem Box.keep12 {w w' : World} {b B : Nat} {vs : List Value} (h : Box w b vs) (hb : Below B w w') (hB : b < B) : Box w' b vs := by
  have hh := hb.block b hB
  exact ⟨fun i v e => by have := h.c i v e; simpa [World.cell?, hh] using this, fun i v e => by have := h.f i v e; simpa [World.frozen?, hh] using this, Nat.lt_of_lt_of_le h.lt hb.size⟩
theorem own_slR {w : World} {B e s : Nat} {v : Value} {n : Nat} {l : List Value} (h : w.ownsRow B e s v n l) : ∃ a c, v = .slice a n c := by
  rcases h.2 with ⟨rfl, rfl⟩ | ⟨g, cap, cur, rfl, _⟩
  · exact ⟨none, 0, rfl⟩
  · exact ⟨_, _, rfl⟩
theorem ownR_stored {w W : World} {b : Nat} {vs : List Value} (hs : Stored w b vs W) {B e s n : Nat} {v : Value} {l : List Value} (h : w.ownsRow B e s v n l) (hb : b < B) : W.ownsRow B e s v n l := by
  refine ⟨h.1, ?_⟩
  rcases h.2 with q | ⟨g, cap, cur, e1, hB, hg, r⟩
  · exact Or.inl q
  · exact Or.inr ⟨g, cap, cur, e1, hB, by rw [hs.block g (by omega)]; exact hg, r⟩
theorem ownR_apart {w w' : World} {B B' e e' s s' n n' : Nat} {v v' : Value} {l l' : List Value} (h : w.ownsRow B e s v n l) (h' : w.ownsRow B' e' s' v' n' l') (hne : e ≠ e') (hg : w.grownBy w' v'.ownBlock) : w'.ownsRow B e s v n l := by
  refine World.ownsRow.kept h hg ?_
  rcases h.2 with ⟨rfl, _⟩ | ⟨g, cap, cur, rfl, _, hb, _⟩
  · exact Or.inl rfl
  · rcases h'.2 with ⟨rfl, _⟩ | ⟨g', cap', cur', rfl, _, hb', _⟩
    · exact Or.inr (fun q => by cases q)
    · refine Or.inr (fun q => hne ?_)
      obtain rfl : g = g' := by simpa [Value.ownBlock] using q
      rw [hb] at hb'
      cases hb'
      rfl
theorem step_append_rowsG {P : Program} {w : World} {ops : Array Oper} {o : Oper} {a : Act} {K : Act → World → Prop} {Q : Exit → Act → World → Prop} {α : Type} {E : Prop} (d : Nat) (hd : o.dst = some d) (hgd : o.guard = none) (L : Lay α) (s x : Operand) (t : TypeId)
    (ho : o.op = .call { callee := .builtin .append, args := #[s, x], argTypes := #[t, t] })
    (base : Nat) (e : TypeId) (i : TypeInfo) (z : Value) (sz bytes : Nat) (hsz : L.s = sz) (ht : P.underlying t = some (.slice e)) (hi : P.info? e = some i) (hz : i.zero = some z)
    (hsize : i.size = sz) (hby : i.bytes = bytes) (hzs : z.cells.size = sz)
    (v : Value) (n : Nat) (l : List Value) (hs : a.eval s = v) (hown : w.ownsRow base e sz v n l)
    (v2 : Value) (xs : List α) (hx : a.eval x = v2) (hin : IsR L w v2 xs)
    (h63 : n + xs.length ≤ maxLen) (hbytes : (n + xs.length) * bytes ≤ 140737488355328) (hbase : base ≤ w.heap.size)
    (h : ∀ v' w', w'.ownsRow base e sz v' (n + xs.length) (l ++ flatR L xs) → w.grownBy w' v.ownBlock → K (a.put (some d) v') w') : if Region.wanted o (yielded ops a.tmps) = true then Oper.wp P o a w K Q else E := by
  rw [if_pos (by simp [Region.wanted, hgd])]
  exact wp_append_rows L s x t ho base e i z sz bytes hsz ht hi hz hsize hby hzs v n l hs hown v2 xs hx hin h63 hbytes hbase fun v' w' h1 h2 => by rw [hd]; exact h v' w' h1 h2
theorem ownR_len {w : World} {B e s n m : Nat} {v : Value} {l : List Value} (h : w.ownsRow B e s v n l) (hn : n = m) : w.ownsRow B e s v m l := hn ▸ h
theorem ownR_storedT {w W : World} {b : Nat} {vs : List Value} {T : TypeId} (hs : Stored w b vs W) (hT : Ty w b T) {B e s n : Nat} {v : Value} {l : List Value} (h : w.ownsRow B e s v n l) (hne : T ≠ e) : W.ownsRow B e s v n l := by
  refine ⟨h.1, ?_⟩
  rcases h.2 with q | ⟨g, cap, cur, e1, hB, hg, r⟩
  · exact Or.inl q
  · refine Or.inr ⟨g, cap, cur, e1, hB, ?_, r⟩
    rw [hs.block g (fun q => ?_)]
    · exact hg
    · obtain ⟨c, fr, hc⟩ := hT
      rw [q, hg] at hc
      simp only [Option.some.injEq, Obj.cells.injEq] at hc
      exact hne hc.2.1.symm
theorem ret_i12 {a b : Int} (h : a = b) : Ending.returned (.int .i64 a) = .returned (.int .i64 b) := by rw [h]
theorem bool_of (p : Prop) : ∃ b : Bool, b = true ↔ p := by
  by_cases h : p
  · exact ⟨true, fun _ => h, fun _ => rfl⟩
  · exact ⟨false, fun g => (Bool.false_ne_true g).elim, fun g => absurd g h⟩
theorem ret_b12 {a b : Bool} (h : a = b) : Ending.returned (.bool a) = .returned (.bool b) := by rw [h]
theorem bool_eq12 {p : Prop} {b c : Bool} (h1 : b = true ↔ p) (h2 : c = true ↔ p) : b = c := by
  by_cases h : p
  · rw [h1.2 h, h2.2 h]
  · cases b <;> cases c <;> simp_all
/-- A row that came in, as a cell of a struct. -/
theorem rows_of_trod {H : Type} {enc : TypeId × Value → H} {W : World} {P : Program} {α : Type} {L : Lay α} {t e : TypeId} {fuel : Nat} {c : Value} {x : DataW H × List MemPlace}
    (ht : P.underlying t = some (.slice e)) (hc : P.cellsOf e = L.s)
    (heach : ∀ (fuel : Nat) (cs : List Value) (x : DataW H × List MemPlace), DataW.trod enc P W 0 (fun _ => true) true fuel e cs = some x → ∃ y, cs = L.f y)
    (h : DataW.trod enc P W 0 (fun _ => true) true fuel t [c] = some x) :
    ∃ xs : List α, IsR L W c xs ∧ (xs = [] ∨ ∃ el sp, x.1 = .slice el sp ∧ el.length = xs.length) := by
  rcases Go.Deep.open_slice ht h with ⟨hcs, _⟩ | ⟨ad, len, cap, m, n, D, Pl, hcs, hb, hl, hm, hmm, hx, hi⟩
  · obtain rfl : c = .slice none 0 0 := by simpa using hcs
    exact ⟨[], IsR.none, Or.inl rfl⟩
  · obtain rfl : c = .slice (some ad) len cap := by simpa using hcs
    simp only [if_true] at hmm
    subst hmm
    have each : ∀ i, i < len → ∃ y : α, ∀ j v, (L.f y)[j]? = some v → W.cell? (ad.add (i * L.s + j)) = some v := by
      intro i hil
      obtain ⟨cs', hcs', ht⟩ := hi i (by omega)
      rw [hc] at hcs'
      obtain ⟨_, hlen, hat⟩ := World.cells?_some hcs'
      obtain ⟨y, rfl⟩ := heach _ _ _ ht
      refine ⟨y, fun j v hv => ?_⟩
      rw [← Go.Deep.add_add, hat j (Lay.lt hv)]
      exact hv
    rcases Nat.eq_zero_or_pos len with q | q
    · subst q
      exact ⟨[], ⟨some ad, _, rfl, by simp, by unfold maxLen at hm; omega, fun q => absurd q (by simp), fun q => by cases q⟩, Or.inl rfl⟩
    obtain ⟨b, off, spot⟩ := ad
    have hspot : spot = none := by
      obtain ⟨b0, hb0⟩ := each 0 q
      obtain ⟨u, hu⟩ : ∃ u, (L.f b0)[0]? = some u := ⟨_, List.getElem?_eq_getElem (by rw [L.len]; exact L.pos)⟩
      simpa [Addr.add] using World.cell?_spot (hb0 0 _ hu)
    subst hspot
    obtain ⟨y0, _⟩ := each 0 q
    have hex : ∃ f : Nat → α, ∀ i, i < len → ∀ j v, (L.f (f i))[j]? = some v → W.cell? (Addr.add ⟨b, off, none⟩ (i * L.s + j)) = some v :=
      ⟨fun i => if h : i < len then Classical.choose (each i h) else y0, fun i h => by dsimp only; rw [dif_pos h]; exact Classical.choose_spec (each i h)⟩
    obtain ⟨f, hfi⟩ := hex
    have hlen : ((List.range len).map f).length = len := by simp
    refine ⟨(List.range len).map f, ⟨some ⟨b, off, none⟩, _, by rw [hlen], by omega, by unfold maxLen at hm; omega, fun _ => ⟨b, off, rfl, fun i x hi j v hv => ?_⟩, fun q => by cases q⟩, Or.inr ⟨_, _, by rw [hx], by rw [hlen, List.length_map, List.length_range]⟩⟩
    have hil : i < len := by rw [← hlen]; exact (List.getElem?_eq_some_iff.1 hi).1
    obtain rfl : f i = x := by
      rw [List.getElem?_map, List.getElem?_range hil] at hi
      simpa using hi
    have := hfi i hil j v hv
    rw [Go.WideShapes.add_plain] at this
    rw [Nat.add_assoc]
    exact this
/-- As LawWalk, with the statement's reach handed to the walk. -/
def LawWalkS (P : Program) (f : FuncId) (fn : Func) : Prop :=
  ∀ (H : Type) (enc : TypeId × Value → H) (W : World) (base : Nat) (args : Array Value) (ds : List (DataW H)) (ps : List MemPlace),
    (∀ (j : Nat) t v, fn.params[j]? = some t → args[j]? = some v → Value.okWide P W .any base t v) →
    DataW.TrodAll enc P W 0 (fun _ => true) true fn.params.toList args.toList ds ps →
    (∀ (j : Nat) t d, fn.params.toList[j]? = some t → ds[j]? = some d → ∀ n ∈ d.weights P t, n ≤ reachBytes) →
    Calls P f args W fun e W' => e = .returned (.bool true) ∧ Below W.heap.size W W'
theorem law_liftedS {C : Checked} {os : Os} {H : Type} {enc : TypeId × Value → H} {f : FuncId} {fn : Func} {s : ChangeSpec} {conds : List PathCond} {tb : TypeId}
    (own : ownKnob C.prog.godebug = none) (hl : laidOutB C.prog = true) (started : os.Started) (noInit : C.prog.inits.idxOf? f = none) (hfn : C.prog.funcs[f]? = some fn)
    (witness : ∃ (w : World) (tape : Tape) (i : Input), w.os = os ∧ (w.forCall tape i).Shaped C.prog ∧ i.vars = [] ∧ Input.okWide C.prog (w.forCall tape i) .any w.heap.size f i ∧
      s.pre6 enc C.prog fn conds false (w.forCall tape i).memory i.args ∧ Assume.holds {} C.prog (lone (Frame.enter C.prog f i.args .normal) [] (w.forCall tape i)))
    (hts : ∀ t ∈ fn.params.toList, C.prog.readableRec t = true ∧ t < C.prog.types.size) (hres : fn.resultTypes = #[tb]) (htb : C.prog.underlying tb = some .bool)
    (hvars : s.vars = []) (hspec : ∀ ds : List (DataW H), ds.length = fn.params.toList.length → s.fn H ds = { results := [.lit (.bool true)], args := ds })
    (walk : LawWalkS C.prog f fn) :
    ReturnsInHanded {} C os f .any (s.pre6 enc C.prog fn conds false) (s.post enc C.prog fn false true false false) := by
  refine returnsInHanded_of_change_sized own started noInit hfn witness ?_
  intro W base args ds gs before hval hW _ hsz _
  have hW' := hW
  obtain ⟨p, q, hA, hV, rfl, hfz, _⟩ := hW
  rw [hvars] at hV
  obtain ⟨rfl, rfl⟩ := trodVars_none hV
  have hlt : ∀ x ∈ p, x.block < W.heap.size := fun x hx => hW'.lt x (by simp [hx])
  have hlen := (trodAll_len _ _ _ _ hA).2
  refine (walk H enc W base args ds p hval hA (fun j t d ht hd n hn => by
    have hm := DataW.weights_mem_each (P := C.prog) (ts := fn.params.toList ++ s.plain.varTypes C.prog) (ds := ds ++ []) (j := j) (by rw [List.getElem?_append_left (List.getElem?_eq_some_iff.1 ht).1]; exact ht) (by rw [List.append_nil]; exact hd) n hn
    simpa using List.all_eq_true.1 hsz n hm)).mono fun e W' ⟨he, hb⟩ => ?_
  refine ⟨.bool true, he, ds, [], p ++ [], [], p, [], hW', ?_, ?_, ?_, ?_, ?_⟩
  · rw [List.append_nil, hspec ds hlen, hres]
    exact trodAll_mk1 (shut_bool htb true)
  · rw [List.append_nil, hspec ds hlen]
    exact trodAll_stays hl _ _ _ _ hts hA (fun x hx => hb.same (hlt x hx)) (fun x hx => by simpa using hlt x hx)
  · rw [hvars, List.append_nil, hspec ds hlen]
    rfl
  · exact hb.frame _
  · intro h
    cases h

end Go.Proofs.Ytjhlpkkefdohjaa
