/-
  Laws of the walk that name no struct of an earlier layer: numbers in bytes, fields, boxes, rows, stores, appends (gathered from the texts of layers 8 and 9).
-/
import Derived.Test.YtipkgflonioacaaGP3
import Derived.Test.YtipkgflonioacaaGP1
import Derived.Lib.AppendZerosOnto
import Derived.Lib.SliceRun

namespace Go.Proofs.Ytipkgflonioacaa
open Go.ChangeShapes Go.WideShapes Go.ChangeAt Go.RowKit Go.Joins

theorem num_ok {k n : Int} (hk : 0 ≤ k ∧ k ≤ 255) (hn : 0 ≤ n ∧ n ≤ 18446744073709551615) (hw : wid k ≠ 0) (hg : n ≤ gre k) : (Fd.num k n hk hn).ok = true := by
  show (decide (wid k ≠ 0) && decide (n ≤ gre k) && (decide (k = 6) || decide (zeroD = zeroD))) = true
  rw [decide_eq_true hw, decide_eq_true hg]
  simp
theorem rea_of {fs : List Fd} (h : rowE fs = 0) : reaE (fs.map Fd.k) (rowB fs) = 0 ∧ reaF (fs.map Fd.k) (rowB fs) = fs := by
  obtain ⟨hl, ho⟩ := rowE_zero h
  have hk : kinE (fs.map Fd.k) = 0 := kinE_ok (by rw [List.length_map]; exact hl) (fun k hk => by
    obtain ⟨f, hf, rfl⟩ := List.mem_map.1 hk
    have := ho f hf
    unfold Fd.ok at this
    simp only [Bool.and_eq_true, decide_eq_true_eq] at this
    exact this.1.1)
  obtain ⟨e1, e2, e3⟩ := fir_some hk (show Rd (fs.map Fd.k) (rowB fs) fs [] from ⟨rfl, ho, List.append_nil _⟩)
  have e4 : reaE (fs.map Fd.k) (rowB fs) = 0 := by unfold reaE; rw [e1, e3]; rfl
  exact ⟨e4, by unfold reaF; rw [e4, if_pos rfl, e2]⟩
theorem u8_inj : ∀ {xs ys : List Int}, xs.map (Value.int .u8) = ys.map (Value.int .u8) → xs = ys
  | [], [], _ => rfl
  | [], _ :: _, h => by cases h
  | _ :: _, [], h => by cases h
  | x :: xs, y :: ys, h => by simp at h; rw [h.1, u8_inj (xs := xs) (ys := ys) (by simpa using h.2)]
theorem cellsU32 : Try.prog.cellsOf 22 = 1 := by kernel_rfl
theorem bounds_u32 {n : Int} (h : (Lit.int .u32 n).wf = true) : 0 ≤ n ∧ n ≤ 4294967295 := by
  have h1 : IntKind.u32.min ≤ n ∧ n ≤ IntKind.u32.max := by simpa [Lit.wf] using h
  have e1 : IntKind.u32.min = 0 := rfl
  have e2 : IntKind.u32.max = 4294967295 := rfl
  omega

set_option maxRecDepth 100000 in
theorem eqF_cons {P : Program} {w : World} {d : Nat} {xs ys : Array Value} {f : Field} {fs : List Field} {a b : Value} {r : Bool} (hn : f.name ≠ "_") (ha : (Go.part f.type xs f.offset).run P w = .ok a w) (hb : (Go.part f.type ys f.offset).run P w = .ok b w)
    (hr : (Op.equalIn d f.type a b).run P w = .ok r w) : (Op.eqFields d xs ys (f :: fs)).run P w = if r = true then (Op.eqFields d xs ys fs).run P w else .ok false w := by
  rw [Op.eqFields, if_pos hn]
  simp only [Sem.run_bind, ha, hb, hr, Result.andThen_ok]
  cases r
  · rfl
  · rfl
theorem and_run {w : World} {r s : Bool} {x : Result Bool} (h : x = .ok s w) : (if r = true then x else .ok false w) = .ok (r && s) w := by
  cases r
  · rfl
  · exact h

section
variable {P : Program} {ops : Array Oper} {o : Oper} {a : Act} {w : World} {K : Act → World → Prop} {Q : Exit → Act → World → Prop} {E : Prop}
theorem step_bsliceH (d : Nat) (hd : o.dst = some d) (hgd : o.guard = none) (t : TypeId) (n : Nat) (xs : Array (Nat × Operand)) (ho : o.op = .buildSlice t n xs) {v : Value} {us : Array (Nat × Value)} {w' : World} (hx' : (xs.toList.map fun p => (p.1, a.eval p.2)) = us.toList) (hr : (Instr.buildSlice t n us).run P w = .ok v w')
    (h : K (a.put (some d) v) w') : if Region.wanted o (yielded ops a.tmps) = true then Oper.wp P o a w K Q else E := by
  rw [if_pos (by simp [Region.wanted, hgd])]
  exact wp_bsliceN t n xs ho hx' hr (by rw [hd]; exact h)
end
theorem F_both {F J J2 : World → Prop} {w : World} (h1 : J w) (h2 : J2 w) (h : ∀ W, J W → J2 W → F W) : F w := h _ h1 h2
theorem bz5 (n : Int) (W : World) : (Instr.build 54 #[(0, .int .u8 5), (1, .int .u64 n)]).run Try.prog W = .ok (.agg (fcell 5 n zeroD).toArray) W := by kernel_rfl


theorem zeroCells_one (z : Value) (k : Nat) : Builtin.zeroCells #[z] k = (List.replicate k z).toArray := by
  apply Array.ext
  · simp [Builtin.zeroCells]
  · intro i h1 h2
    simp [Builtin.zeroCells, Nat.mod_one]
theorem run_append_zeros {P : Program} (w : World) (base : Nat) (t tn ty e : TypeId) (i : TypeInfo) (z : Value) (kq kn : IntKind) (ht : P.underlying t = some (.slice e)) (htn : P.underlying tn = some (.int kn)) (hi : P.info? e = some i) (hz : i.zero = some z)
    (hsize : i.size = 1) (hby : i.bytes = 1) (hzs : z.cells = #[z]) (h1z : z.oneCell' = true) (v : Value) (n : Nat) (xs : List Value) (hown : w.ownsRow base e 1 v n xs) (k : Nat) (hk : n + k ≤ 1000000) (hbase : base ≤ w.heap.size) :
    ∃ v' w', (Builtin.append_ #[t, tn] ty #[v, .int kq k]).run P w = .ok v' w' ∧ w'.ownsRow base e 1 v' (n + k) (xs ++ List.replicate k z) ∧ w.grownBy w' v.ownBlock := by
  have hw : IntKind.i64.wrap (k : Int) = k := by rw [IntKind.wrap_i64]; omega
  have hneg : ¬ ((k : Int) < 0) := by omega
  have h48i : ¬ (281474976710656 < (k : Int) * 1) := by omega
  have h48j : ¬ (281474976710656 < (k : Int)) := by omega
  have hlen : (xs ++ List.replicate k z).length = (n + k) * 1 := by rw [List.length_append, hown.1, List.length_replicate]; omega
  have hm63 : n + k ≤ maxLen := by unfold maxLen; omega
  have grown : ∀ (old : Nat) (row : Option Nat),
      (w.drew.alloc (.cells (xs.toArray ++ Builtin.zeroCells z.cells k ++ Builtin.zeroCells z.cells (grownCap w (n + k) old e - (n + k))) e)).ownsRow base e 1
        (.slice (some ⟨w.heap.size, 0, none⟩) (n + k) (grownCap w (n + k) old e)) (n + k) (xs ++ List.replicate k z) ∧
      w.grownBy (w.drew.alloc (.cells (xs.toArray ++ Builtin.zeroCells z.cells k ++ Builtin.zeroCells z.cells (grownCap w (n + k) old e - (n + k))) e)) row := by
    intro old row
    have hge := grownCap_ge w (n + k) old e
    have hcm : grownCap w (n + k) old e ≤ maxLen := grownCap_le_maxLen w (n + k) old e hm63
    rw [hzs, zeroCells_one, zeroCells_one]
    refine ⟨⟨hlen, .inr ⟨w.heap.size, _, _, rfl, hbase, heap_alloc_new w.drew _, hge, hcm, ?_, ?_⟩⟩, ⟨rfl, rfl, rfl, by simp, fun k hk _ => heap_alloc_old w.drew _ hk⟩⟩
    · have := hown.1
      simp only [Array.size_append, List.size_toArray, List.length_replicate]
      omega
    · simp only [Array.toList_append]
      rw [← hlen]
      exact List.take_left
  rcases hown.2 with ⟨rfl, rfl⟩ | ⟨g, cap, cur, rfl, hbg, hg, hnc, hcm, hcs, htake⟩
  · have hx : xs = [] := List.eq_nil_of_length_eq_zero (by simpa using hown.1)
    subst hx
    by_cases hk0 : k = 0
    · subst hk0
      refine ⟨.slice none 0 0, w, ?_, World.ownsRow_nil w base e 1, ⟨rfl, rfl, rfl, Nat.le_refl _, fun _ _ _ => rfl⟩⟩
      simp [Builtin.append_, run_underlying ht, run_underlying htn, sizeOf, typeInfo, hi, asInt, asIntOf, show IntKind.i64.wrap 0 = 0 from rfl]
    · have hr := Lib.run_append_nil_zeros (P := P) w t tn ty e i z kq kn ht htn hi hz k (by omega) (by omega) (by omega) (by rw [hby]; omega)
      have hgr := grown 0 (Value.ownBlock (.slice none 0 0))
      simp only [Nat.zero_add, List.nil_append, Array.empty_append] at hgr ⊢
      exact ⟨_, _, hr, hgr.1, hgr.2⟩
  · by_cases hroom : n + k ≤ cap
    · by_cases hk0 : k = 0
      · subst hk0
        refine ⟨.slice (some ⟨g, 0, none⟩) (n + 0) cap, w, ?_, by simpa using hown, ⟨rfl, rfl, rfl, Nat.le_refl _, fun _ _ _ => rfl⟩⟩
        simp [Builtin.append_, run_underlying ht, run_underlying htn, sizeOf, typeInfo, hi, asInt, asIntOf, show IntKind.i64.wrap 0 = 0 from rfl, hnc, storeCells]
      · have hfit : n + 0 + (List.replicate k z).length ≤ cur.size := by rw [List.length_replicate, hcs]; omega
        have hst := run_storeCells_at P g n e (List.replicate k z) 0 cur w hg hfit (fun u hu => by obtain ⟨_, rfl⟩ := List.mem_replicate.1 hu; exact h1z)
        rw [Nat.add_zero] at hst
        refine ⟨.slice (some ⟨g, 0, none⟩) (n + k) cap, _, ?_, ⟨hlen, .inr ⟨g, cap, _, rfl, hbg, setRow_heap w g cur (cur.toList.take n ++ List.replicate k z ++ cur.toList.drop (n + (List.replicate k z).length)).toArray e _ hg, hroom, hcm, ?_, ?_⟩⟩, ⟨rfl, rfl, rfl, by simp, fun k _ hk => setRow_other w g k _ (fun e => hk (by simp [Value.ownBlock, e]))⟩⟩
        · have hadd : (⟨g, 0, none⟩ : Addr).add n = ⟨g, n, none⟩ := by rw [Go.WideShapes.add_plain, Nat.zero_add]
          simp [Builtin.append_, run_underlying ht, run_underlying htn, sizeOf, typeInfo, zeroValue, hi, hz, hsize, hby, asInt, asIntOf, hw, hneg, h48j, hk0, hroom, hzs, zeroCells_one, hadd]
          rw [hst]
          simp
        · simp only [List.size_toArray, List.length_append, List.length_take, List.length_drop, Array.length_toList, List.length_replicate]
          omega
        · rw [show cur.toList.take n = xs by rw [← htake, Nat.mul_one], ← hlen]
          exact List.take_left
    · have hold : (Builtin.firstCells i.size n (.slice (some ⟨g, 0, none⟩) n cap)).run P w.drew = .ok xs.toArray w.drew := by
        have hl := run_loadCells_list (P := P) w.drew ⟨g, 0, none⟩ xs (fun j u hu => hown.cells (g := g) rfl j u hu)
        rw [hown.1] at hl
        simpa [Builtin.firstCells, hsize] using hl
      have hr := Lib.run_append_grow_zeros (P := P) w t tn ty e i z kq kn ht htn hi hz (some ⟨g, 0, none⟩) n cap xs hold k (by omega) (by omega) (by omega) (by omega) (by rw [hby]; omega) (by rw [hby]; exact growslice_fits (by omega) (by omega))
      have hgr := grown cap (Value.ownBlock (.slice (some ⟨g, 0, none⟩) n cap))
      exact ⟨_, _, hr, hgr.1, hgr.2⟩
theorem wpList_append_zeros {P : Program} {w : World} {ops : Array Oper} {rest : List Oper} {o : Oper} {a : Act} {Q : Exit → Act → World → Prop} (hgd : o.guard = none) (s x : Operand) (t tn : TypeId)
    (ho : o.op = .call { callee := .builtin .append, args := #[s, x], argTypes := #[t, tn] }) (base : Nat) (e : TypeId) (i : TypeInfo) (z : Value) (kq kn : IntKind) (ht : P.underlying t = some (.slice e)) (htn : P.underlying tn = some (.int kn)) (hi : P.info? e = some i) (hz : i.zero = some z)
    (hsize : i.size = 1) (hby : i.bytes = 1) (hzs : z.cells = #[z]) (h1z : z.oneCell' = true) (v : Value) (n : Nat) (xs : List Value) (k : Nat) (hs : a.eval s = v) (hx : a.eval x = .int kq (k : Int)) (hown : w.ownsRow base e 1 v n xs) (hk : n + k ≤ 1000000) (hbase : base ≤ w.heap.size)
    (h : ∀ v' w', w'.ownsRow base e 1 v' (n + k) (xs ++ List.replicate k z) → w.grownBy w' v.ownBlock → wpList P ops Q rest (a.put o.dst v') w') : wpList P ops Q (o :: rest) a w := by
  obtain ⟨v', w', hr, h2, h3⟩ := run_append_zeros (P := P) w base t tn o.type e i z kq kn ht htn hi hz hsize hby hzs h1z v n xs hown k hk hbase
  exact Lib.wpList_append_run w hgd s x t tn ho _ _ hs hx v' w' hr (h v' w' h2 h3)


theorem own_cut {w : World} {B e n g cap : Nat} {l : List Value} (h : w.ownsRow B e 1 (.slice (some ⟨g, 0, none⟩) n cap) n l) : w.ownsRow B e 1 (.slice (some ⟨g, 0, none⟩) 0 cap) ([] : List Int).length (([] : List Int).map (Value.int .u8)) := by
  obtain ⟨_, ⟨h1, _⟩ | ⟨g', cap', cur, h1, hb, hg, h2, h3, h4, h5⟩⟩ := h
  · cases h1
  · injection h1 with e1 e2 e3
    cases e1
    subst e3
    exact ⟨rfl, .inr ⟨g, cap, cur, rfl, hb, hg, Nat.zero_le _, h3, h4, by simp⟩⟩

theorem flat_take_succ (xss : List (List Int)) (k : Nat) (h : k < xss.length) : (xss.take (k + 1)).flatten = (xss.take k).flatten ++ xss[k] := by
  rw [List.take_succ_eq_append_getElem h, List.flatten_append]
  simp
theorem flat_take_le (xss : List (List Int)) (k : Nat) : (xss.take k).flatten.length ≤ xss.flatten.length := by
  conv => rhs; rw [← List.take_append_drop k xss]
  rw [List.flatten_append, List.length_append]
  omega


/-- Two rows, which read so in a world, whatever world that is. -/
def GivesTwo (xs ys : List Int) (y w : World) (e : Ending) (w' : World) : Prop := ∃ v u, e = .returned (.tuple #[v, u]) ∧ IsL y .u8 v xs ∧ IsL y .u8 u ys ∧ Below w.heap.size w w'
theorem IsL.recap {w : World} {k : IntKind} {b off n c : Nat} {xs : List Int} (h : IsL w k (.slice (some ⟨b, off, Option.none⟩) n c) xs) {a' : Option Addr} {m : Nat} (hm : m ≤ xs.length) (ha : a' = some ⟨b, off, Option.none⟩) : IsL w k (.slice a' m m) (xs.take m) := by
  subst ha
  obtain ⟨a0, c0, e, hi, _⟩ := h.taken hm
  injection e with e1 e2 e3
  subst e1 e3
  have l1 : (xs.take m).length = m := by rw [List.length_take]; omega
  have q1 := hi.room
  have q2 := hi.most
  exact ⟨_, m, by rw [l1], ⟨by omega, by omega, hi.cells⟩, fun q => by cases q⟩
theorem IsL.empty {w : World} {k : IntKind} {a : Option Addr} {c : Nat} (h : c ≤ 9223372036854775807) (h0 : a = Option.none → c = 0) : IsL w k (.slice a 0 c) [] := ⟨a, c, rfl, ⟨Nat.zero_le _, h, fun q => absurd q (by simp)⟩, h0⟩


theorem Box.isl {w : World} {b : Nat} {k : IntKind} {xs : List Int} (n : Nat) (hn : xs.length = n) (h : Box w b (xs.map (Value.int k))) (hl : n ≤ 1000000) : IsL w k (.slice (some ⟨b, 0, Option.none⟩) n n) xs := IsL.boxed n hn h hl


theorem list32 {l : List Int} (h : l.length = 32) : ∃ x0 x1 x2 x3 x4 x5 x6 x7 x8 x9 x10 x11 x12 x13 x14 x15 x16 x17 x18 x19 x20 x21 x22 x23 x24 x25 x26 x27 x28 x29 x30 x31, l = [x0, x1, x2, x3, x4, x5, x6, x7, x8, x9, x10, x11, x12, x13, x14, x15, x16, x17, x18, x19, x20, x21, x22, x23, x24, x25, x26, x27, x28, x29, x30, x31] := by
  match l, h with
  | [x0, x1, x2, x3, x4, x5, x6, x7, x8, x9, x10, x11, x12, x13, x14, x15, x16, x17, x18, x19, x20, x21, x22, x23, x24, x25, x26, x27, x28, x29, x30, x31], _ => exact ⟨x0, x1, x2, x3, x4, x5, x6, x7, x8, x9, x10, x11, x12, x13, x14, x15, x16, x17, x18, x19, x20, x21, x22, x23, x24, x25, x26, x27, x28, x29, x30, x31, rfl⟩
theorem yieldsIf_build {P : Program} {ops : Array Oper} {S : World → Prop} {op : Oper} {a : Act} (hw : Region.wanted op (yielded ops a.tmps) = true) (t : TypeId) (xs : Array (Nat × Operand)) (ho : op.op = .build t xs) {us : Array (Nat × Value)} {v : Value}
    (hx : (xs.toList.map fun p => (p.1, a.eval p.2)) = us.toList) (hr : ∀ W, (Instr.build t us).run P W = .ok v W) : YieldsIf P ops S op v a :=
  .inl ⟨hw, fun w _ => by
    have hx' : (xs.map fun (i, x) => (i, a.eval x)) = us := by
      apply Array.ext'
      rw [Array.toList_map, ← hx]
    subst hx'
    unfold execOp
    simp only [ho, Sem.run_bind, hr, Result.andThen_ok, Sem.run_pure]⟩
theorem z32 : zeroD.length = 32 := by decide


set_option maxRecDepth 100000 in
set_option maxHeartbeats 1600000 in
theorem rbytes_own (n : Int) (m : Nat) (w : World) (h0 : 0 ≤ n) (h1 : n ≤ 18446744073709551615) (hm : m ≤ 8) : Calls Try.prog 37 #[.int .u64 n, .int .i64 m] w (GivesOwn (be m n) w) := by
  have _ := h1
  obtain ⟨ti, hin, hz0, hz1, hz2⟩ := info_parts info_u8'
  go_enter Try.func37, Try.ntmps37
  go_wp2_with fail
  go_loopw [5, 6] (fun s5 s6 wr => ∃ (i j : Nat), s6 = .int .i64 ((i : Int) - 1) ∧ Hid (m = j + i) ∧ i ≤ m ∧ Hid (wr.ownsRow w.heap.size 5 1 s5 j (((be m n).take j).map (Value.int .u8))) ∧ Below w.heap.size w wr) (fun _ s6 _ => (intOf s6 + 1).toNat)
  case atStart => exact ⟨m, 0, rfl, Lib.hid (by omega), Nat.le_refl _, Lib.hid (by simpa using ownU_nil), by go_grown⟩
  case round =>
    obtain ⟨i, j, rfl, HMJ, him, HO, hB⟩ := hrel
    have hs := hB.size
    cases i with
    | zero =>
      have HX := Lib.hid (show (be m n).take j = be m n from List.take_of_length_le (by rw [be_len]; have := HMJ.out; omega))
      have d1 : ((0 : Nat) : Int) - 1 = -1 := rfl
      rw [d1]
      go_wp2_with fail
      go_returns
      refine ⟨_, rfl, ?_, hB⟩
      have h1 := HO.out
      rw [HX.out, show j = (be m n).length by rw [be_len]; have := HMJ.out; omega] at h1
      exact h1
    | succ i =>
      have d1 : ((i + 1 : Nat) : Int) - 1 = (i : Int) := by omega
      rw [d1]
      have HT := Lib.hid (be_take_succ m n j i HMJ.out h0)
      have hjm : j + 1 ≤ 8 := by have := HMJ.out; omega
      have HO2 := Lib.hid (fun (x : Int) => ownR_below HO.out ((Below.refl wr.heap.size wr).alloc (Nat.le_refl _) (.cells #[.int .u8 x] 5)))
      go_wp2_with (at_builtin; refine wpList_append_ints rfl _ _ 31 rfl w.heap.size 5 ti (.int .u8 0) 1 .u8 Try.underlying31 hin hz0 hz1 hz2 rfl _ j _ rfl (HO2.out _) _ 1 [n / 2 ^ (8 * i) % 256] rfl ((IsL.built [n / 2 ^ (8 * i) % 256] rfl rfl rfl rfl (by simp)).ints) (fun h => by cases h) (by unfold maxLen; simp; omega) (by simp; omega) (by simp; omega) ?_; intro v4 w4 hown4 hgrow4)
      have hB4 : Below w.heap.size w w4 := (hB.alloc hs _).grown hgrow4 (by simp; omega) (own_block (HO2.out (n / 2 ^ (8 * i) % 256)))
      have HO4 := Lib.hid (show w4.ownsRow w.heap.size 5 1 v4 (j + 1) (((be m n).take (j + 1)).map (Value.int .u8)) by rw [HT.out, List.map_append]; exact hown4)
      clear hown4 hgrow4 HO2 HO
      go_wp2_with fail
      go_roundw
      case rel => exact ⟨i, j + 1, rfl, Lib.hid (by have := HMJ.out; omega), by omega, HO4, hB4⟩
      case measure => simp [intOf]

theorem Box.keepR {w w' : World} {b B : Nat} {vs : List Value} (h : Box w b vs) (hb : Below B w w') (hB : b < B) : Box w' b vs := by
  have hh := hb.block b hB
  exact ⟨fun i v e => by have := h.c i v e; simpa [World.cell?, hh] using this, fun i v e => by have := h.f i v e; simpa [World.frozen?, hh] using this, Nat.lt_of_lt_of_le h.lt hb.size⟩
theorem Box.upR {w w' : World} {b B : Nat} {vs : List Value} (h : Box w b vs) (hb : Below B w w') (hB : b < B) : Box w' b vs ∧ b < w'.heap.size := ⟨h.keepR hb hB, (h.keepR hb hB).lt⟩
theorem step_append_ints {P : Program} {w : World} {ops : Array Oper} {o : Oper} {a : Act} {K : Act → World → Prop} {Q : Exit → Act → World → Prop} {E : Prop} (d : Nat) (hd : o.dst = some d) (hgd : o.guard = none) (s x : Operand) (t : TypeId)
    (ho : o.op = .call { callee := .builtin .append, args := #[s, x], argTypes := #[t, t] })
    (base : Nat) (e : TypeId) (i : TypeInfo) (z : Value) (bytes : Nat) (k : IntKind) (ht : P.underlying t = some (.slice e)) (hi : P.info? e = some i) (hz : i.zero = some z)
    (hsize : i.size = 1) (hby : i.bytes = bytes) (hzs : z.cells.size = 1)
    (v : Value) (n : Nat) (l : List Value) (hs : a.eval s = v) (hown : w.ownsRow base e 1 v n l)
    (v2 : Value) (xs : List Int) (hx : a.eval x = v2) (hin : IsL w k v2 xs)
    (h63 : n + xs.length ≤ maxLen) (hbytes : (n + xs.length) * bytes ≤ 140737488355328) (hbase : base ≤ w.heap.size)
    (h : ∀ v' w', w'.ownsRow base e 1 v' (n + xs.length) (l ++ xs.map (Value.int k)) → Below base w w' → K (a.put (some d) v') w') : if Region.wanted o (yielded ops a.tmps) = true then Oper.wp P o a w K Q else E := by
  rw [if_pos (by simp [Region.wanted, hgd])]
  obtain ⟨at0, cap, rfl, h2, h0⟩ := hin
  exact wp_append_ints s x t ho base e i z bytes k ht hi hz hsize hby hzs v n l hs hown at0 cap xs hx h2 h0 h63 hbytes hbase fun v' w' h1 h2 => by rw [hd]; exact h v' w' h1 ((Below.refl _ w).grown h2 hbase (own_block hown))


/-- The first of a Tag's bytes; the rest is zero. -/
def gS (g : List Int) (i : Nat) : List Int := g.take i ++ List.replicate (32 - i) 0
theorem gS_zero (g : List Int) : gS g 0 = zeroD := rfl
theorem gS_all {g : List Int} (h : g.length = 32) : gS g 32 = g := by unfold gS; rw [List.take_of_length_le (by omega)]; simp
theorem gS_len {g : List Int} (h : g.length = 32) {i : Nat} (hi : i ≤ 32) : (gS g i).length = 32 := by unfold gS; rw [List.length_append, List.length_take, List.length_replicate]; omega
theorem gS_succ {g : List Int} (h : g.length = 32) {i : Nat} (hi : i < 32) : (gS g i).set i (nth g i) = gS g (i + 1) := by
  unfold gS
  have l1 : (g.take i).length = i := by rw [List.length_take]; omega
  obtain ⟨m, hm⟩ : ∃ m, 32 - i = m + 1 := ⟨31 - i, by omega⟩
  have hm2 : 32 - (i + 1) = m := by omega
  rw [hm, hm2, List.set_append_right i (nth g i) (by omega), l1, Nat.sub_self, List.replicate_succ, List.set_cons_zero, take_succ_nth (by omega), List.append_assoc]
  rfl
end Go.Proofs.Ytipkgflonioacaa

namespace Go.Proofs.Ytipkgflonioacaa

/-- Numbers of these widths. -/
def InW : List Nat → List Int → Prop
  | [], [] => True
  | w :: ws, n :: ns => (0 ≤ n ∧ n < 256 ^ w) ∧ InW ws ns
  | _, _ => False
/-- Their bytes, one behind the other. -/
def beL : List Nat → List Int → List Int
  | w :: ws, n :: ns => be w n ++ beL ws ns
  | _, _ => []
theorem beL_byts : ∀ (ws : List Nat) (ns : List Int), Byts (beL ws ns)
  | [], _ => Byts.nil
  | _ :: _, [] => Byts.nil
  | w :: ws, n :: ns => (be_byts w n).append (beL_byts ws ns)
theorem beL_len : ∀ {ws : List Nat} {ns : List Int}, InW ws ns → (beL ws ns).length = ws.sum
  | [], [], _ => rfl
  | w :: ws, n :: ns, h => by
    unfold beL
    rw [List.length_append, be_len, beL_len h.2]
    rfl
  | [], _ :: _, h => h.elim
  | _ :: _, [], h => h.elim
theorem beL_inj : ∀ {ws : List Nat} {ns ms : List Int} {xs ys : List Int}, InW ws ns → InW ws ms → beL ws ns ++ xs = beL ws ms ++ ys → ns = ms ∧ xs = ys
  | [], [], [], _, _, _, _, h => ⟨rfl, h⟩
  | w :: ws, n :: ns, m :: ms, xs, ys, h1, h2, h => by
    unfold beL at h
    rw [List.append_assoc, List.append_assoc] at h
    obtain ⟨e1, e2⟩ := List.append_inj h (by rw [be_len, be_len])
    obtain ⟨e3, e4⟩ := beL_inj h1.2 h2.2 e2
    have := congrArg num e1
    rw [num_be w n h1.1.1 h1.1.2, num_be w m h2.1.1 h2.1.2] at this
    exact ⟨by rw [this, e3], e4⟩
  | [], _ :: _, _, _, _, h, _, _ => h.elim
  | [], [], _ :: _, _, _, _, h, _ => h.elim
  | _ :: _, [], _, _, _, h, _, _ => h.elim
  | _ :: _, _ :: _, [], _, _, _, h, _ => h.elim
/-- Bytes cut into numbers. -/
theorem bytes_cut : ∀ (ws : List Nat) (m : Nat) (bs : List Int), bs.length = ws.sum + m → Byts bs → ∃ ns rest, InW ws ns ∧ bs = beL ws ns ++ rest ∧ rest.length = m ∧ Byts rest
  | [], m, bs, hl, hb => ⟨[], bs, trivial, rfl, by simpa using hl, hb⟩
  | w :: ws, m, bs, hl, hb => by
    rw [List.sum_cons] at hl
    have h1 : (bs.take w).length = w := by rw [List.length_take]; omega
    obtain ⟨ns, rest, i1, i2, i3, i4⟩ := bytes_cut ws m (bs.drop w) (by rw [List.length_drop]; omega) (hb.drop w)
    refine ⟨num (bs.take w) :: ns, rest, ⟨num_bound w _ h1 (hb.take w), i1⟩, ?_, i3, i4⟩
    unfold beL
    rw [be_num w _ h1 (hb.take w), List.append_assoc, ← i2, List.take_append_drop]

theorem zeroD_len : zeroD.length = 32 := by decide
theorem zeroD_byts : Byts zeroD := Fd.zero.hd
theorem p256_1 : (256 : Int) ^ 1 = 256 := by decide
theorem p256_2 : (256 : Int) ^ 2 = 65536 := by decide
theorem p256_4 : (256 : Int) ^ 4 = 4294967296 := by decide
theorem p256_8 : (256 : Int) ^ 8 = 18446744073709551616 := by decide
end Go.Proofs.Ytipkgflonioacaa

namespace Go.Proofs.Ytipkgflonioacaa
open Go.ChangeShapes Go.WideShapes Go.ChangeAt Go.RowKit Go.Joins

def kindsD : List IntKind := List.replicate 32 .u8
theorem fitU8 {n : Int} (h : 0 ≤ n ∧ n ≤ 255) : FitC .u8 (.int .u8 n) := ⟨n, rfl, wf_of h⟩
theorem fitU16 {n : Int} (h : 0 ≤ n ∧ n ≤ 65535) : FitC .u16 (.int .u16 n) := ⟨n, rfl, wf_of h⟩
theorem fitU32 {n : Int} (h : 0 ≤ n ∧ n ≤ 4294967295) : FitC .u32 (.int .u32 n) := ⟨n, rfl, wf_of h⟩
theorem fitU64 {n : Int} (h : 0 ≤ n ∧ n ≤ 18446744073709551615) : FitC .u64 (.int .u64 n) := ⟨n, rfl, wf_of h⟩
theorem fitI64 {n : Int} (h : -9223372036854775808 ≤ n ∧ n ≤ 9223372036854775807) : FitC .i64 (.int .i64 n) := ⟨n, rfl, wf_of h⟩
theorem fit_dig {g : List Int} (hg : g.length = 32) (hb : Byts g) : Fit kindsD (g.map (Value.int .u8)) := fit_ints (lo := 0) (hi := 255) (fun _ h => wf_of (q := .u8) h) hg hb
theorem b8 {n : Int} (h : (Lit.int .u8 n).wf = true) : 0 ≤ n ∧ n ≤ 255 := wf_inv h
theorem b16 {n : Int} (h : (Lit.int .u16 n).wf = true) : 0 ≤ n ∧ n ≤ 65535 := wf_inv h
theorem b32 {n : Int} (h : (Lit.int .u32 n).wf = true) : 0 ≤ n ∧ n ≤ 4294967295 := wf_inv h
theorem b64 {n : Int} (h : (Lit.int .u64 n).wf = true) : 0 ≤ n ∧ n ≤ 18446744073709551615 := wf_inv h
theorem bi64 {n : Int} (h : (Lit.int .i64 n).wf = true) : -9223372036854775808 ≤ n ∧ n ≤ 9223372036854775807 := wf_inv h
theorem fit_dig_inv {cs : List Value} (h : Fit kindsD cs) : ∃ g : List Int, cs = g.map (Value.int .u8) ∧ g.length = 32 ∧ Byts g := by
  obtain ⟨g, h1, h2, h3⟩ := fit_ints_inv h
  exact ⟨g, h1, h2, fun x hx => b8 (h3 x hx)⟩
theorem fit_one : ∀ {ks : List IntKind} {cs : List Value}, Fit ks cs → ∀ u ∈ cs, u.oneCell' = true
  | [], [], _, _, h => by cases h
  | _ :: _, _ :: _, ⟨⟨n, e, _⟩, h2⟩, u, hu => by
    rcases List.mem_cons.1 hu with q | q
    · rw [q, e]; rfl
    · exact fit_one h2 u q
  | [], _ :: _, h, _, _ => h.elim
  | _ :: _, [], h, _, _ => h.elim
section
variable {H : Type} {enc : TypeId × Value → H} {W : World} {r : Reach} {b0 base : Nat} {sp : Nat → Bool} {held : Bool} {v : Value} {d : DataW H} {p : List MemPlace}
theorem kinDg : kindsT Try.prog 5 52 = some kindsD := by kernel_rfl
theorem aggDg : aggB Try.prog 52 = true := by kernel_rfl
set_option maxRecDepth 100000 in
theorem open_dg9 (hw : Value.okWide Try.prog W r b0 52 v) (h : DataW.Trod enc Try.prog W base sp held 52 v d p) : ∃ g : List Int, v = .agg (g.map (Value.int .u8)).toArray ∧ g.length = 32 ∧ Byts g := by
  obtain ⟨cs, rfl, hf⟩ := open_flat 5 kinDg aggDg hw h
  obtain ⟨g, rfl, hg, hb⟩ := fit_dig_inv hf
  exact ⟨g, rfl, hg, hb⟩
end


theorem Box.rangeMid {w : World} {b : Nat} {vs : List Value} (h : Box w b vs) (k : Nat) (cs rest : List Value) (he : vs.drop k = cs ++ rest) : w.rangeAt b k cs := fun j v e => by
  have e2 : (vs.drop k)[j]? = some v := by
    rw [he, List.getElem?_append_left (List.getElem?_eq_some_iff.1 e).1]
    exact e
  rw [List.getElem?_drop] at e2
  exact h.c (k + j) v e2
theorem F_gen {F J : World → Prop} {w : World} (h1 : J w) (h : ∀ W, J W → F W) : F w := h _ h1
section
variable {P : Program} {ops : Array Oper} {rest : List Oper} {o : Oper} {a : Act} {w : World} {K : Act → World → Prop} {Q : Exit → Act → World → Prop} {E : Prop}
theorem wpList_load_box9 (hw : Region.wanted o (yielded ops a.tmps) = true) (ty : TypeId) (x : Operand) (ho : o.op = .load ty x) {b : Nat} {cs : List Value} (hb : Box w b cs) (hx : a.eval x = .pointer (some ⟨b, 0, none⟩)) {d : TypeDesc}
    (hu : P.underlying ty = some d) (hd : d.isRow = true) (hi : (P.info? ty).map (·.size) = some cs.length)
    (h : wpList P ops Q rest (a.put o.dst (.agg cs.toArray)) w) : wpList P ops Q (o :: rest) a w :=
  wpList_load_rangew hw ty x ho hb.range hx hu hd hi h
theorem wpList_build9 (hw : Region.wanted o (yielded ops a.tmps) = true) (t : TypeId) (xs : Array (Nat × Operand)) (ho : o.op = .build t xs) {v : Value} {us : Array (Nat × Value)} (hx : (xs.toList.map fun p => (p.1, a.eval p.2)) = us.toList) (hr : (Instr.build t us).run P w = .ok v w)
    (h : wpList P ops Q rest (a.put o.dst v) w) : wpList P ops Q (o :: rest) a w := by
  have hx' : (xs.map fun (i, x) => (i, a.eval x)) = us := by
    apply Array.ext'
    rw [Array.toList_map, ← hx]
  subst hx'
  refine BigFrame.wpList_want hw fun _ hK => ?_
  unfold Oper.wp execOp
  simp only [ho, Sem.run_bind, hr, Result.andThen_ok, Sem.run_pure]
  exact hK _ _ h
theorem step_store_part0 (hgd : o.guard = none) (hd : o.dst = none) (ty : TypeId) (x y : Operand) (ho : o.op = .store ty x y) {b k : Nat} {us cs ws : List Value} (hb : Box w b us) (hx : a.eval x = .pointer (some ⟨b, k, none⟩)) (hy : a.eval y = .agg cs.toArray)
    (hi : (P.info? ty).map (·.size) = some cs.length) (hk : k + cs.length ≤ us.length) (hw : ws = us.take k ++ cs ++ us.drop (k + cs.length)) (h1 : cs.toArray.all (·.oneCell') = true)
    (hK : ∀ W, Stored w b ws W → K a W) : if Region.wanted o (yielded ops a.tmps) = true then Oper.wp P o a w K Q else E := by
  rw [if_pos (by simp [Region.wanted, hgd])]
  exact wp_store_mid ty x y ho b k cs.toArray hx hy (by simpa using hb.thereAt k cs.length hk) (by simpa using hi) h1 (by rw [hd]; exact hK _ (Stored.part hb hk hw))
theorem run_storeVar_cell (b k : Nat) (ty : TypeId) {v : Value} (hv : v.cells = #[v]) (hv2 : v.oneCell' = true) (ht : w.there b k 1) (hi : (P.info? ty).map (·.size) = some 1) : (storeVar ty ⟨b, k, none⟩ v).run P w = .ok () (w.setCells b k [v]) := by
  have := run_storeCells_cells (P := P) b k [v] 0 w (fun j hj => by simpa using (ht j (by simpa using hj)).1) (fun j hj => by simpa using (ht j (by simpa using hj)).2) (fun u hu => by simp at hu; rw [hu]; exact hv2)
  cases hq : P.info? ty with
  | none => simp [hq] at hi
  | some i =>
    have hs : i.size = 1 := by simpa [hq] using hi
    simp only [Nat.add_zero] at this
    simp [storeVar, sizeOf, typeInfo, hq, hv, hs, this]
theorem wp_store_cell (ty : TypeId) (x y : Operand) (ho : o.op = .store ty x y) {b k : Nat} {us ws : List Value} {v : Value} (hb : Box w b us) (hx : a.eval x = .pointer (some ⟨b, k, none⟩)) (hy : a.eval y = v) (hv : v.cells = #[v]) (hv2 : v.oneCell' = true)
    (hi : (P.info? ty).map (·.size) = some 1) (hk : k < us.length) (hw : ws = us.set k v) (h : ∀ W, Stored w b ws W → K (a.put o.dst undef) W) : o.wp P a w K Q := by
  unfold Oper.wp execOp
  simp only [ho, hx, hy, Instr.storeAt, Instr.sureAddr, Sem.run_bind, Sem.run_pure, Result.andThen_ok, run_storeVar_cell b k ty hv hv2 (hb.thereAt k 1 (by omega)) hi]
  refine h _ (Stored.part hb (by simp; omega) ?_)
  rw [hw, List.set_eq_take_append_cons_drop, if_pos hk]
  simp
theorem step_store_cell0 (hgd : o.guard = none) (hd : o.dst = none) (ty : TypeId) (x y : Operand) (ho : o.op = .store ty x y) {b k : Nat} {us ws : List Value} {v : Value} (hb : Box w b us) (hx : a.eval x = .pointer (some ⟨b, k, none⟩)) (hy : a.eval y = v) (hv : v.cells = #[v]) (hv2 : v.oneCell' = true)
    (hi : (P.info? ty).map (·.size) = some 1) (hk : k < us.length) (hw : ws = us.set k v) (hK : ∀ W, Stored w b ws W → K a W) : if Region.wanted o (yielded ops a.tmps) = true then Oper.wp P o a w K Q else E := by
  rw [if_pos (by simp [Region.wanted, hgd])]
  exact wp_store_cell ty x y ho hb hx hy hv hv2 hi hk hw (by rw [hd]; exact hK)
theorem wpList_store_cell (hgd : o.guard = none) (ty : TypeId) (x y : Operand) (ho : o.op = .store ty x y) {b k : Nat} {us ws : List Value} {v : Value} (hb : Box w b us) (hx : a.eval x = .pointer (some ⟨b, k, none⟩)) (hy : a.eval y = v) (hv : v.cells = #[v]) (hv2 : v.oneCell' = true)
    (hi : (P.info? ty).map (·.size) = some 1) (hk : k < us.length) (hw : ws = us.set k v) (h : ∀ W, Stored w b ws W → wpList P ops Q rest (a.put o.dst undef) W) : wpList P ops Q (o :: rest) a w :=
  wpList_plain hgd fun _ hK => wp_store_cell ty x y ho hb hx hy hv hv2 hi hk hw fun W hW => hK _ _ (h W hW)
end


set_option maxRecDepth 100000 in
theorem bfld (k n : Int) (W : World) : (Instr.build 54 #[(0, .int .u8 k), (1, .int .u64 n)]).run Try.prog W = .ok (.agg (fcell k n zeroD).toArray) W := by kernel_rfl

/-- Of what type a block's cells are. -/
def Ty (w : World) (b : Nat) (T : TypeId) : Prop := ∃ cs fr, w.heap[b]? = some (.cells cs T fr)
theorem Ty.below {w w' : World} {b : Nat} {T : TypeId} (h : Ty w b T) (hb : Below w.heap.size w w') : Ty w' b T := by
  obtain ⟨cs, fr, h⟩ := h
  exact ⟨cs, fr, by rw [hb.block b (Array.getElem?_eq_some_iff.1 h).1]; exact h⟩
theorem Ty.newc {w : World} {b : Nat} {c : Array Value} {T : TypeId} (hb : b = w.heap.size) : Ty (w.alloc (.cells c T)) b T := by
  subst hb
  exact ⟨c, (0, 0), heap_alloc_new w _⟩
theorem Ty.alloc {w : World} {b : Nat} {T : TypeId} (h : Ty w b T) (o : Obj) : Ty (w.alloc o) b T := h.below ((Below.refl _ _).alloc (Nat.le_refl _) _)
theorem own_ne {w : World} {B e s : Nat} {T : TypeId} {v : Value} {n : Nat} {xs : List Value} {b : Nat} (hown : w.ownsRow B e s v n xs) (h : Ty w b T) (hTe : T ≠ e) : v.ownBlock ≠ some b := by
  obtain ⟨cs, fr, hb⟩ := h
  rcases hown.2 with ⟨rfl, _⟩ | ⟨g, cap, cur, rfl, _, hg, _⟩
  · simp [Value.ownBlock]
  · intro h
    simp only [Value.ownBlock, Option.some.injEq] at h
    subst h
    rw [hg] at hb
    simp only [Option.some.injEq, Obj.cells.injEq] at hb
    exact hTe hb.2.1.symm
/-- A box of another type than a row's elements is as it was when the row has grown. -/
theorem Box.grownT {w w' : World} {b B e s : Nat} {T : TypeId} {vs : List Value} {v : Value} {n : Nat} {xs : List Value} (h : Box w b vs) (hT : Ty w b T) (hown : w.ownsRow B e s v n xs) (hTe : T ≠ e) (hg : w.grownBy w' v.ownBlock) : Box w' b vs ∧ Ty w' b T := by
  have hk := hg.block b h.lt (fun q => own_ne hown hT hTe q.symm)
  refine ⟨⟨fun i v e => ?_, fun i v e => ?_, Nat.lt_of_lt_of_le h.lt hg.size⟩, ?_⟩
  · rw [World.cell?_of_block (a := ⟨b, i, none⟩) hk]
    exact h.c i v e
  · rw [World.frozen?_of_block (a := ⟨b, i, none⟩) hk]
    exact h.f i v e
  · obtain ⟨cs, fr, hb⟩ := hT
    exact ⟨cs, fr, by rw [hk]; exact hb⟩

theorem step_append_rowsd {P : Program} {w : World} {ops : Array Oper} {o : Oper} {a : Act} {K : Act → World → Prop} {Q : Exit → Act → World → Prop} {α : Type} {E : Prop} (d : Nat) (hd : o.dst = some d) (hgd : o.guard = none) (L : Lay α) (s x : Operand) (t : TypeId)
    (ho : o.op = .call { callee := .builtin .append, args := #[s, x], argTypes := #[t, t] })
    (base : Nat) (e : TypeId) (i : TypeInfo) (z : Value) (sz bytes : Nat) (hsz : L.s = sz) (ht : P.underlying t = some (.slice e)) (hi : P.info? e = some i) (hz : i.zero = some z)
    (hsize : i.size = sz) (hby : i.bytes = bytes) (hzs : z.cells.size = sz)
    (v : Value) (n : Nat) (l : List Value) (hs : a.eval s = v) (hown : w.ownsRow base e sz v n l)
    (v2 : Value) (xs : List α) (hx : a.eval x = v2) (hin : IsR L w v2 xs)
    (h63 : n + xs.length ≤ maxLen) (hbytes : (n + xs.length) * bytes ≤ 140737488355328) (hbase : base ≤ w.heap.size)
    (h : ∀ v' w', w'.ownsRow base e sz v' (n + xs.length) (l ++ flatR L xs) → Below base w w' → K (a.put (some d) v') w') : if Region.wanted o (yielded ops a.tmps) = true then Oper.wp P o a w K Q else E :=
  step_append_rows hgd L s x t ho base e i z sz bytes hsz ht hi hz hsize hby hzs v n l hs hown v2 xs hx hin h63 hbytes hbase (by rw [hd]; exact h)
/-- A field with a number. -/
def fdN (k n : Int) : Fd := if h : (0 ≤ k ∧ k ≤ 255) ∧ (0 ≤ n ∧ n ≤ 18446744073709551615) then Fd.num k n h.1 h.2 else Fd.zero
theorem fdN_is {k n : Int} (hk : 0 ≤ k ∧ k ≤ 255) (hn : 0 ≤ n ∧ n ≤ 18446744073709551615) : fdN k n = Fd.num k n hk hn := dif_pos ⟨hk, hn⟩
theorem fdN_v {k n : Int} (hk : 0 ≤ k ∧ k ≤ 255) (hn : 0 ≤ n ∧ n ≤ 18446744073709551615) : (fdN k n).v = fcell k n zeroD := by rw [fdN_is hk hn]; rfl
theorem fdN_bs {k n : Int} (hk : 0 ≤ k ∧ k ≤ 255) (hn : 0 ≤ n ∧ n ≤ 18446744073709551615) (h6 : k ≠ 6) : (fdN k n).bs = be (wid k) n := by
  rw [fdN_is hk hn]
  exact if_neg h6
theorem fdN_ok {k n : Int} (hk : 0 ≤ k ∧ k ≤ 255) (hn : 0 ≤ n ∧ n ≤ 18446744073709551615) (hw : wid k ≠ 0) (hg : n ≤ gre k) : (fdN k n).ok = true := by
  rw [fdN_is hk hn]
  exact num_ok hk hn hw hg
theorem k8 {n : Int} (h : 0 ≤ n ∧ n ≤ 255) : 0 ≤ n ∧ n ≤ 18446744073709551615 := by omega
theorem k32 {n : Int} (h : 0 ≤ n ∧ n ≤ 4294967295) : 0 ≤ n ∧ n ≤ 18446744073709551615 := by omega
theorem fd2_bs {n : Int} (h : 0 ≤ n ∧ n ≤ 255) : (fdN 2 n).bs = be 1 n := fdN_bs (by decide) (k8 h) (by decide)
theorem fd4_bs {n : Int} (h : 0 ≤ n ∧ n ≤ 4294967295) : (fdN 4 n).bs = be 4 n := fdN_bs (by decide) (k32 h) (by decide)
theorem fd5_bs {n : Int} (h : 0 ≤ n ∧ n ≤ 18446744073709551615) : (fdN 5 n).bs = be 8 n := fdN_bs (by decide) h (by decide)
theorem fd2_ok {n : Int} (h : 0 ≤ n ∧ n ≤ 255) : (fdN 2 n).ok = true := fdN_ok (by decide) (k8 h) (by decide) h.2
theorem fd4_ok {n : Int} (h : 0 ≤ n ∧ n ≤ 4294967295) : (fdN 4 n).ok = true := fdN_ok (by decide) (k32 h) (by decide) h.2
theorem fd5_ok {n : Int} (h : 0 ≤ n ∧ n ≤ 18446744073709551615) : (fdN 5 n).ok = true := fdN_ok (by decide) h (by decide) h.2
theorem two8 : (0 : Int) ≤ 2 ∧ (2 : Int) ≤ 255 := by decide
/-- The field of a digest. -/
def fdD (g : List Int) (hg : g.length = 32) (hb : Byts g) : Fd := ⟨6, 0, g, by decide, by decide, hg, hb⟩
theorem fdD_ok {g : List Int} (hg : g.length = 32) (hb : Byts g) : (fdD g hg hb).ok = true := by
  unfold Fd.ok fdD
  simp [wid, gre]
theorem fdN_k {k n : Int} (hk : 0 ≤ k ∧ k ≤ 255) (hn : 0 ≤ n ∧ n ≤ 18446744073709551615) : (fdN k n).k = k := by rw [fdN_is hk hn]; rfl
theorem fd2_k {n : Int} (h : 0 ≤ n ∧ n ≤ 255) : (fdN 2 n).k = 2 := fdN_k (by decide) (k8 h)
theorem fd4_k {n : Int} (h : 0 ≤ n ∧ n ≤ 4294967295) : (fdN 4 n).k = 4 := fdN_k (by decide) (k32 h)
theorem fd5_k {n : Int} (h : 0 ≤ n ∧ n ≤ 18446744073709551615) : (fdN 5 n).k = 5 := fdN_k (by decide) h

theorem size_u8n : (Try.prog.info? 5).map (·.size) = some 1 := by kernel_rfl
theorem size_u32n : (Try.prog.info? 22).map (·.size) = some 1 := by kernel_rfl
theorem size_u64n : (Try.prog.info? 24).map (·.size) = some 1 := by kernel_rfl
theorem size_dg9 {g : List Int} (h : g.length = 32) : (Try.prog.info? 52).map (·.size) = some (g.map (Value.int .u8)).length := by rw [sizeDig, List.length_map, h]



def GivesF (fs : List Fd) (w : World) (e : Ending) (w' : World) : Prop := ∃ v, e = .returned v ∧ IsR LF w' v fs ∧ Below w.heap.size w w'
theorem flatF (f : Fd) : flatR LF [f] = f.v := flatR_one LF f


def GivesE (xs : List Int) (q : Int) (w : World) (e : Ending) (w' : World) : Prop := ∃ v, e = .returned (.tuple #[v, .int .i64 q]) ∧ IsL w' .u8 v xs ∧ Below w.heap.size w w'
theorem fd3_bs {n : Int} (h : 0 ≤ n ∧ n ≤ 65535) : (fdN 3 n).bs = be 2 n := fdN_bs (by decide) (by omega) (by decide)
theorem fd3_ok {n : Int} (h : 0 ≤ n ∧ n ≤ 65535) : (fdN 3 n).ok = true := fdN_ok (by decide) (by omega) (by decide) h.2
theorem one8 : (0 : Int) ≤ 1 ∧ (1 : Int) ≤ 255 := by decide
theorem row1_e : rowE [fdN 2 1] = 0 := rowE_ok (by decide) (fun f hf => by simp at hf; rw [hf]; exact fd2_ok one8)
theorem row1_b : rowB [fdN 2 1] = [1] := by
  show (fdN 2 1).bs ++ [] = [1]
  rw [fd2_bs one8]
  rfl
theorem own_sl9 {w : World} {B e : Nat} {v : Value} {n : Nat} {l : List Value} (h : w.ownsRow B e 1 v n l) : ∃ a c, v = .slice a n c := by
  rcases h.2 with ⟨rfl, rfl⟩ | ⟨g, cap, cur, rfl, _⟩
  · exact ⟨none, 0, rfl⟩
  · exact ⟨_, _, rfl⟩


def GivesOE (xs : List Int) (q : Int) (w : World) (e : Ending) (w' : World) : Prop := ∃ v, e = .returned (.tuple #[v, .int .i64 q]) ∧ w'.ownsRow w.heap.size 5 1 v xs.length (xs.map (Value.int .u8)) ∧ Below w.heap.size w w'

theorem own_box {w : World} {B e s : Nat} {v : Value} {n : Nat} {xs : List Value} (h : w.ownsRow B e s v n xs) (hn : 0 < n) : ∃ g c, v = .slice (some ⟨g, 0, none⟩) n c ∧ B ≤ g ∧ n ≤ c ∧ c ≤ 9223372036854775807 ∧ Box w g xs := by
  have hl := h.1
  rcases h.2 with ⟨_, rfl⟩ | ⟨g, cap, cur, rfl, hb, hg, h1, h2, _⟩
  · omega
  · refine ⟨g, cap, rfl, hb, h1, h2, ⟨fun i v e => ?_, fun i v e => ?_, (Array.getElem?_eq_some_iff.1 hg).1⟩⟩
    · rw [h.cellAt i (by rw [← hl]; exact (List.getElem?_eq_some_iff.1 e).1)]
      exact e
    · exact h.frozenAt i
theorem IsR.ofBoxc {α : Type} {L : Lay α} {w : World} {b n c : Nat} {V : List Value} {xs : List α} (h : Box w b V) (hV : V = flatR L xs) (hn : n = xs.length) (h1 : n ≤ c) (h2 : c ≤ 9223372036854775807) : IsR L w (.slice (some ⟨b, 0, Option.none⟩) n c) xs := by
  subst hn hV
  refine ⟨_, c, rfl, h1, h2, fun _ => ⟨b, 0, rfl, fun i x hi j v hv => ?_⟩, fun q => by cases q⟩
  rw [Nat.zero_add]
  exact h.c _ _ (flatR_at hi hv)

theorem fdN_n {k n : Int} (hk : 0 ≤ k ∧ k ≤ 255) (hn : 0 ≤ n ∧ n ≤ 18446744073709551615) : (fdN k n).n = n := by rw [fdN_is hk hn]; rfl


theorem iff_t {p q : Prop} {b : Bool} (h : p ↔ q) (hb : p ↔ b = true) : q ↔ b = true := h.symm.trans hb


theorem Ty.setCell {w : World} {b : Nat} {T : TypeId} (h : Ty w b T) (a : Addr) (v : Value) : Ty (w.setCell a v) b T := by
  obtain ⟨cs, fr, h⟩ := h
  by_cases q : b = a.block
  · refine ⟨if a.spot.isSome then cs else cs.setIfInBounds a.off v, fr, ?_⟩
    simp [World.setCell, Array.getElem?_modify, ← q, h]
  · exact ⟨cs, fr, by rw [heap_setCell_other w a b v q]; exact h⟩
theorem Ty.setCells {b : Nat} {T : TypeId} (g : Nat) : ∀ (vs : List Value) (o : Nat) (w : World), Ty w b T → Ty (w.setCells g o vs) b T
  | [], _, _, h => h
  | v :: vs, o, _, h => Ty.setCells g vs (o + 1) _ (h.setCell ⟨g, o, none⟩ v)
theorem wpList_store_boxT {P : Program} {ops : Array Oper} {rest : List Oper} {o : Oper} {a : Act} {w : World} {Q : Exit → Act → World → Prop} (hgd : o.guard = none) (ty : TypeId) (x y : Operand) (ho : o.op = .store ty x y) {b : Nat} {us cs : List Value} (hb : Box w b us) (hx : a.eval x = .pointer (some ⟨b, 0, none⟩)) (hy : a.eval y = .agg cs.toArray)
    (hi : (P.info? ty).map (·.size) = some cs.length) (hl : us.length = cs.length) (h1 : cs.toArray.all (·.oneCell') = true)
    (h : ∀ W, Stored w b cs W → (∀ T, Ty w b T → Ty W b T) → wpList P ops Q rest (a.put o.dst undef) W) : wpList P ops Q (o :: rest) a w :=
  wpList_store_mid hgd ty x y ho b 0 cs.toArray hx hy (by have := hb.there; rw [hl] at this; simpa using this) (by simpa using hi) h1 (h _ (Stored.mk' hb hl) (fun T hT => Ty.setCells b _ _ _ hT))
theorem step_append_intsG {P : Program} {w : World} {ops : Array Oper} {o : Oper} {a : Act} {K : Act → World → Prop} {Q : Exit → Act → World → Prop} {E : Prop} (d : Nat) (hd : o.dst = some d) (hgd : o.guard = none) (s x : Operand) (t : TypeId)
    (ho : o.op = .call { callee := .builtin .append, args := #[s, x], argTypes := #[t, t] })
    (base : Nat) (e : TypeId) (i : TypeInfo) (z : Value) (bytes : Nat) (k : IntKind) (ht : P.underlying t = some (.slice e)) (hi : P.info? e = some i) (hz : i.zero = some z)
    (hsize : i.size = 1) (hby : i.bytes = bytes) (hzs : z.cells.size = 1)
    (v : Value) (n : Nat) (l : List Value) (hs : a.eval s = v) (hown : w.ownsRow base e 1 v n l)
    (v2 : Value) (xs : List Int) (hx : a.eval x = v2) (hin : IsL w k v2 xs)
    (h63 : n + xs.length ≤ maxLen) (hbytes : (n + xs.length) * bytes ≤ 140737488355328) (hbase : base ≤ w.heap.size)
    (h : ∀ v' w', w'.ownsRow base e 1 v' (n + xs.length) (l ++ xs.map (Value.int k)) → w.grownBy w' v.ownBlock → K (a.put (some d) v') w') : if Region.wanted o (yielded ops a.tmps) = true then Oper.wp P o a w K Q else E := by
  rw [if_pos (by simp [Region.wanted, hgd])]
  obtain ⟨at0, cap, rfl, h2, h0⟩ := hin
  exact wp_append_ints s x t ho base e i z bytes k ht hi hz hsize hby hzs v n l hs hown at0 cap xs hx h2 h0 h63 hbytes hbase fun v' w' h1 h2 => by rw [hd]; exact h v' w' h1 h2




theorem sameb_ff {v1 v2 : Value} {xs ys : List Int} (w : World) (h1 : IsL w .u8 v1 xs) (h2 : IsL w .u8 v2 ys) (h : xs ≠ ys) : Calls Try.prog 18 #[v1, v2] w fun e w' => e = .returned (.bool false) ∧ Below w.heap.size w w' := by
  obtain ⟨a1, c1, rfl, i1, _⟩ := h1
  obtain ⟨a2, c2, rfl, i2, _⟩ := h2
  refine (sameb_any a1 a2 c1 c2 xs ys w i1 i2).mono fun e w' ⟨he, n, hw⟩ => ⟨by rw [he, show sameB xs ys = false from decide_eq_false h], ?_⟩
  rw [hw]; exact below_drewN (Below.refl _ _) n

theorem cut_mid {bs pre mid post : List Int} {k m : Nat} (h : bs = pre ++ (mid ++ post)) (h1 : pre.length = k) (h2 : mid.length = m) : (bs.take (k + m)).drop k = mid := by
  subst h1 h2
  rw [h, List.drop_take, List.drop_left' rfl, Nat.add_sub_cancel_left, List.take_left' rfl]
theorem nth_mid {bs pre post : List Int} {k : Nat} (h : bs = pre ++ post) (h1 : pre.length = k) (i : Nat) : nth bs (k + i) = nth post i := by
  subst h1
  rw [h, nth_append_right (by omega), Nat.add_sub_cancel_left]
theorem be_one {n : Int} (h : 0 ≤ n ∧ n ≤ 255) : be 1 n = [n] := by unfold be be; simp; omega


set_option maxRecDepth 100000 in
set_option maxHeartbeats 1600000 in
theorem fwrite_own {v : Value} {fs : List Fd} (w : World) (h1 : IsR LF w v fs) (he : rowE fs = 0) : Calls Try.prog 22 #[v] w (GivesOE (rowB fs) 0 w) := by
  have C := size_is w h1
  rw [rowV_ok he] at C
  rw [he] at C
  obtain ⟨a0, c0, rfl, hr⟩ := id h1
  have i1 := hr.room
  have i2 := hr.most
  have hl := (rowE_zero he).1
  have hm := rowB_le fs
  have HR := Lib.hid h1
  obtain ⟨m, hmm⟩ : ∃ m, (rowB fs).length = m := ⟨_, rfl⟩
  rw [hmm] at C hm
  obtain ⟨ti, hin, hz0, hz1, hz2⟩ := info_parts info_u8'
  clear hr he h1 hmm
  go_enter Try.func22, Try.ntmps22
  go_wp2_with fail
  refine C.mono ?_
  rintro e w1 ⟨rfl, hb⟩
  have hs := hb.size
  go_upto_region 5 with (refine wpList_make_own _ rfl _ _ _ rfl w.heap.size 5 ti _ 1 Try.underlying31 hin hz0 hz1 _ _ _ m rfl rfl rfl (by rw [hz2]; omega) (by unfold maxLen; omega) hs ?_; intro w2 hown hgrow)
  have hB := hb.grown hgrow hs (by intro k hk; cases hk)
  clear hgrow C
  go_wp2_with fail
  go_loopw [6, 21] (fun s6 s21 wr => ∃ (k n : Nat), s21 = .int .i64 k ∧ k ≤ fs.length ∧ Hid (wr.ownsRow w.heap.size 5 1 s6 n ((rowB (fs.take k)).map (Value.int .u8))) ∧ Hid (n = (rowB (fs.take k)).length) ∧ Below w.heap.size w wr) (fun _ s21 _ => fs.length - (intOf s21).toNat)
  case atStart => exact ⟨0, 0, rfl, by omega, Lib.hid (by simpa [rowB] using hown), Lib.hid rfl, hB⟩
  case round =>
    clear hB hown
    obtain ⟨k, n, rfl, hk, HO, HN, hB⟩ := hrel
    have hs2 := hB.size
    by_cases hlt : k < fs.length
    case neg =>
      have hkk : fs.take k = fs := List.take_of_length_le (by omega)
      have HX := Lib.hid hkk
      clear hkk
      go_wp2_with fail
      go_returns
      refine ⟨_, rfl, ?_, hB⟩
      have h2 := HO.out
      rw [HN.out, HX.out] at h2
      exact h2
    case pos =>
      obtain ⟨b, off, rfl, hR⟩ := HR.out.get 34 rfl (List.getElem?_eq_getElem hlt)
      have hR1 := range_below hR hB
      obtain ⟨f, hf⟩ : ∃ f, fs[k] = f := ⟨_, rfl⟩
      rw [hf] at hR1
      have hS := lenFld f
      have h1 := oneFld f
      have hz : Fd.zero.v.length = f.v.length := by rw [f.v_len, Fd.v_len]
      have C := bytesOf_is f
      have HT := Lib.hid (rowB_take_succ hlt)
      rw [hf] at HT
      have hn2 : n + f.bs.length ≤ 1280 := by
        have h2 := rowB_le (fs.take (k + 1))
        rw [HT.out, List.length_append, ← HN.out, List.length_take] at h2
        omega
      clear hR hf
      obtain ⟨V, hV⟩ : ∃ V, f.v = V := ⟨_, rfl⟩
      rw [hV] at hS h1 C hz
      rw [show LF.f f = V from hV] at hR1
      clear hV
      go_upto_region 8 with (first | refine wpList_load_range rfl _ _ rfl hR1 rfl Try.underlying54 rfl hS ?_ | (refine wpList_store_box (cs := V) rfl _ _ _ rfl (Box.newc (l := Fd.zero.v) rfl rfl) rfl rfl hS hz h1 ?_; intro W1 hW1))
      have hB1 : Below w.heap.size w W1 := hW1.below _ _ hs2 (by go_grown)
      have hW : Below wr.heap.size wr W1 := hW1.below _ _ (Nat.le_refl _) (by go_grown)
      have hbx := hW1.box
      have HO1 := Lib.hid (ownR_below HO.out hW)
      clear HO hW1 hW
      go_wp2_with (refine wpList_load_box rfl _ _ rfl hbx rfl Try.underlying54 rfl hS ?_)
      refine (C _).mono ?_
      rintro e w3 ⟨vb, rfl, hLb, hb3⟩
      have hB3 := below_thru hB1 hb3
      have HO3 := ownR_below HO1.out hb3
      have hs3 := hB3.size
      obtain ⟨a3, c3, rfl, hi3, h03⟩ := hLb
      clear HO1
      go_wp2_with (at_builtin; refine wpList_append_ints rfl _ _ 31 rfl w.heap.size 5 ti (.int .u8 0) 1 .u8 Try.underlying31 hin hz0 hz1 hz2 rfl _ n _ rfl HO3 a3 c3 f.bs rfl hi3 h03 (by unfold maxLen; omega) (by omega) hs3 ?_; intro v4 w4 hown4 hgrow4)
      have hB4 := hB3.grown hgrow4 hs3 (own_block HO3)
      have HO4 : Hid (w4.ownsRow w.heap.size 5 1 v4 (n + f.bs.length) ((rowB (fs.take (k + 1))).map (Value.int .u8))) := Lib.hid (by rw [HT.out, List.map_append]; exact hown4)
      have HN4 : Hid (n + f.bs.length = (rowB (fs.take (k + 1))).length) := Lib.hid (by rw [HT.out, List.length_append, ← HN.out])
      clear hown4 hgrow4 HO3 hi3 h03
      go_wp2_with fail
      go_roundw
      case rel => exact ⟨k + 1, n + f.bs.length, by go_num, by omega, HO4, HN4, hB4⟩
      case measure => simp [intOf]; omega


end Go.Proofs.Ytipkgflonioacaa
