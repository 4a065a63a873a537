/-
  Tokens: numbers and a Tag; their messages, their bytes, their cells; tokens that came in.
  Tokens compared.
  Package token, walked: Bytes.
  append(row, make([]byte, k)...) onto a row of the call's own.
  slices.Grow of a nil row, slices.Concat of rows of bytes, walked.
  Package token, walked: split.
-/
import Derived.Test.YtkpdlbcmnfphmaaGP3
import Derived.Test.YtkpdlbcmnfphmaaGP1
import Derived.Lib.AppendZerosOnto
import Derived.Lib.SliceRun

namespace Go.Proofs.Ytkpdlbcmnfphmaa
open Go.ChangeShapes Go.WideShapes Go.ChangeAt Go.RowKit Go.Joins

/-- Four numbers, as they are held. -/
structure Nums where
  t : Int
  u : Int
  e : Int
  x : Int
  ht : 0 ≤ t ∧ t ≤ 4294967295
  hu : 0 ≤ u ∧ u ≤ 4294967295
  he : 0 ≤ e ∧ e ≤ 4294967295
  hx : 0 ≤ x ∧ x ≤ 18446744073709551615
theorem Nums.ext' {k l : Nums} (h1 : k.t = l.t) (h2 : k.u = l.u) (h3 : k.e = l.e) (h4 : k.x = l.x) : k = l := by
  cases k; cases l; simp_all
/-- The message. -/
def Nums.msg (k : Nums) : List Int := be 4 k.t ++ (be 4 k.u ++ (be 4 k.e ++ be 8 k.x))
theorem Nums.msg_len (k : Nums) : k.msg.length = 20 := by unfold Nums.msg; simp [be_len]
theorem Nums.msg_byts (k : Nums) : Byts k.msg := (be_byts 4 _).append ((be_byts 4 _).append ((be_byts 4 _).append (be_byts 8 _)))
theorem Nums.msg_inj {k l : Nums} (h : k.msg = l.msg) : k = l := by
  unfold Nums.msg at h
  obtain ⟨h1, h⟩ := List.append_inj h (by rw [be_len, be_len])
  obtain ⟨h2, h⟩ := List.append_inj h (by rw [be_len, be_len])
  obtain ⟨h3, h4⟩ := List.append_inj h (by rw [be_len, be_len])
  have n4 : ∀ {a b : Int}, 0 ≤ a ∧ a ≤ 4294967295 → 0 ≤ b ∧ b ≤ 4294967295 → be 4 a = be 4 b → a = b := fun {a b} ha hb q => by
    have := congrArg num q
    rwa [num_be 4 a ha.1 (by show a < 4294967296; omega), num_be 4 b hb.1 (by show b < 4294967296; omega)] at this
  have n8 : ∀ {a b : Int}, 0 ≤ a ∧ a ≤ 18446744073709551615 → 0 ≤ b ∧ b ≤ 18446744073709551615 → be 8 a = be 8 b → a = b := fun {a b} ha hb q => by
    have := congrArg num q
    rwa [num_be 8 a ha.1 (by show a < 18446744073709551616; omega), num_be 8 b hb.1 (by show b < 18446744073709551616; omega)] at this
  exact Nums.ext' (n4 k.ht l.ht h1) (n4 k.hu l.hu h2) (n4 k.he l.he h3) (n8 k.hx l.hx h4)
/-- The numbers that 20 bytes are. -/
theorem Nums.of_bytes {bs : List Int} (hl : bs.length = 20) (hb : Byts bs) : ∃ k : Nums, k.msg = bs ∧ k.t = Go.Proofs.Ytkpdlbcmnfphmaa.num (bs.take 4) ∧ k.u = Go.Proofs.Ytkpdlbcmnfphmaa.num ((bs.take 8).drop 4) ∧ k.e = Go.Proofs.Ytkpdlbcmnfphmaa.num ((bs.take 12).drop 8) ∧ k.x = Go.Proofs.Ytkpdlbcmnfphmaa.num ((bs.take 20).drop 12) := by
  have l1 : (bs.take 4).length = 4 := by rw [List.length_take]; omega
  have l2 : ((bs.take 8).drop 4).length = 4 := by rw [List.length_drop, List.length_take]; omega
  have l3 : ((bs.take 12).drop 8).length = 4 := by rw [List.length_drop, List.length_take]; omega
  have l4 : ((bs.take 20).drop 12).length = 8 := by rw [List.length_drop, List.length_take]; omega
  have b1 := num_bound 4 _ l1 (hb.take 4)
  have b2 := num_bound 4 _ l2 ((hb.take 8).drop 4)
  have b3 := num_bound 4 _ l3 ((hb.take 12).drop 8)
  have b4 := num_bound 8 _ l4 ((hb.take 20).drop 12)
  have p4 : (256 : Int) ^ 4 = 4294967296 := by decide
  have p8 : (256 : Int) ^ 8 = 18446744073709551616 := by decide
  rw [p4] at b1 b2 b3
  rw [p8] at b4
  refine ⟨⟨num (bs.take 4), num ((bs.take 8).drop 4), num ((bs.take 12).drop 8), num ((bs.take 20).drop 12), by omega, by omega, by omega, by omega⟩, ?_, rfl, rfl, rfl, rfl⟩
  unfold Nums.msg
  show be 4 (num (bs.take 4)) ++ (be 4 (num ((bs.take 8).drop 4)) ++ (be 4 (num ((bs.take 12).drop 8)) ++ be 8 (num ((bs.take 20).drop 12)))) = bs
  rw [be_num 4 _ l1 (hb.take 4), be_num 4 _ l2 ((hb.take 8).drop 4), be_num 4 _ l3 ((hb.take 12).drop 8), be_num 8 _ l4 ((hb.take 20).drop 12)]
  have e3 : (bs.take 12).drop 8 ++ (bs.take 20).drop 12 = (bs.take 20).drop 8 := by
    conv => rhs; rw [← List.take_append_drop 4 ((bs.take 20).drop 8)]
    rw [List.drop_drop, List.take_drop, List.take_take]
    rfl
  have e2 : (bs.take 8).drop 4 ++ (bs.take 20).drop 8 = (bs.take 20).drop 4 := by
    conv => rhs; rw [← List.take_append_drop 4 ((bs.take 20).drop 4)]
    rw [List.drop_drop, List.take_drop, List.take_take]
    rfl
  have e1 : bs.take 20 = bs := List.take_of_length_le (by omega)
  rw [e3, e2, e1, List.take_append_drop]
/-- The row of a message. -/
def Nums.row (k : Nums) : List Fd := [.num 4 k.t (by decide) ⟨k.ht.1, by have := k.ht.2; omega⟩, .num 4 k.u (by decide) ⟨k.hu.1, by have := k.hu.2; omega⟩, .num 4 k.e (by decide) ⟨k.he.1, by have := k.he.2; omega⟩, .num 5 k.x (by decide) k.hx]
theorem Nums.row_b (k : Nums) : rowB k.row = k.msg := by
  show be 4 k.t ++ (be 4 k.u ++ (be 4 k.e ++ (be 8 k.x ++ []))) = _
  rw [List.append_nil]
  rfl
theorem num_ok {k n : Int} (hk : 0 ≤ k ∧ k ≤ 255) (hn : 0 ≤ n ∧ n ≤ 18446744073709551615) (hw : wid k ≠ 0) (hg : n ≤ gre k) : (Fd.num k n hk hn).ok = true := by
  show (decide (wid k ≠ 0) && decide (n ≤ gre k) && (decide (k = 6) || decide (zeroD = zeroD))) = true
  rw [decide_eq_true hw, decide_eq_true hg]
  simp
theorem Nums.row_e (k : Nums) : rowE k.row = 0 := rowE_ok (by show 4 ≤ 40; decide) (fun f hf => by
  unfold Nums.row at hf
  simp only [List.mem_cons, List.not_mem_nil, or_false] at hf
  rcases hf with rfl | rfl | rfl | rfl
  · exact num_ok _ _ (by decide) k.ht.2
  · exact num_ok _ _ (by decide) k.hu.2
  · exact num_ok _ _ (by decide) k.he.2
  · exact num_ok _ _ (by decide) k.hx.2)
theorem Nums.row_k (k : Nums) : k.row.map Fd.k = [4, 4, 4, 5] := rfl
theorem rea_of {fs : List Fd} (h : rowE fs = 0) : reaE (fs.map Fd.k) (rowB fs) = 0 ∧ reaF (fs.map Fd.k) (rowB fs) = fs := by
  obtain ⟨hl, ho⟩ := rowE_zero h
  have hk : kinE (fs.map Fd.k) = 0 := kinE_ok (by rw [List.length_map]; exact hl) (fun k hk => by
    obtain ⟨f, hf, rfl⟩ := List.mem_map.1 hk
    have := ho f hf
    unfold Fd.ok at this
    simp only [Bool.and_eq_true, decide_eq_true_eq] at this
    exact this.1.1)
  obtain ⟨e1, e2, e3⟩ := fir_some hk (show Rd (fs.map Fd.k) (rowB fs) fs [] from ⟨rfl, ho, List.append_nil _⟩)
  have e4 : reaE (fs.map Fd.k) (rowB fs) = 0 := by unfold reaE; rw [e1, e3]; rfl
  exact ⟨e4, by unfold reaF; rw [e4, if_pos rfl, e2]⟩
theorem Nums.rea (k : Nums) : reaE [4, 4, 4, 5] k.msg = 0 ∧ reaF [4, 4, 4, 5] k.msg = k.row := by
  have := rea_of k.row_e
  rwa [k.row_k, k.row_b] at this

/-- A token's cells. -/
def tcell (k : Nums) (g : List Int) : List Value := .int .u32 k.t :: .int .u32 k.u :: .int .u32 k.e :: .int .u64 k.x :: g.map (Value.int .u8)
theorem tcell_len (k : Nums) {g : List Int} (h : g.length = 32) : (tcell k g).length = 36 := by simp [tcell, h]
theorem tcell_one (k : Nums) (g : List Int) : (tcell k g).toArray.all (·.oneCell') = true := all_oneCell_toArray (fun u hu => by
  simp [tcell] at hu
  rcases hu with rfl | rfl | rfl | rfl | ⟨y, _, rfl⟩ <;> rfl)
theorem tcell_drop (k : Nums) (g : List Int) : (tcell k g).drop 4 = g.map (Value.int .u8) := rfl
theorem u8_inj : ∀ {xs ys : List Int}, xs.map (Value.int .u8) = ys.map (Value.int .u8) → xs = ys
  | [], [], _ => rfl
  | [], _ :: _, h => by cases h
  | _ :: _, [], h => by cases h
  | x :: xs, y :: ys, h => by simp at h; rw [h.1, u8_inj (xs := xs) (ys := ys) (by simpa using h.2)]
theorem tcell_inj {k l : Nums} {g h : List Int} (q : tcell k g = tcell l h) : k = l ∧ g = h := by
  unfold tcell at q
  simp only [List.cons.injEq, Value.int.injEq, true_and] at q
  exact ⟨Nums.ext' q.1 q.2.1 q.2.2.1 q.2.2.2.1, u8_inj q.2.2.2.2⟩
/-- A token whose numbers and Tag are zero. -/
def Nums.zero : Nums := ⟨0, 0, 0, 0, by decide, by decide, by decide, by decide⟩
theorem cellsU32 : Try.prog.cellsOf 22 = 1 := by kernel_rfl
theorem cellsTok : Try.prog.cellsOf 38 = 36 := by kernel_rfl
theorem sizeTok : (Try.prog.info? 38).map (·.size) = some 36 := by kernel_rfl
theorem size_tok (k : Nums) {g : List Int} (h : g.length = 32) : (Try.prog.info? 38).map (·.size) = some (tcell k g).length := by rw [sizeTok, tcell_len k h]
theorem len_tok (k l : Nums) {g h : List Int} (hg : g.length = 32) (hh : h.length = 32) : (tcell k g).length = (tcell l h).length := by rw [tcell_len k hg, tcell_len l hh]
theorem bounds_u32 {n : Int} (h : (Lit.int .u32 n).wf = true) : 0 ≤ n ∧ n ≤ 4294967295 := by
  have h1 : IntKind.u32.min ≤ n ∧ n ≤ IntKind.u32.max := by simpa [Lit.wf] using h
  have e1 : IntKind.u32.min = 0 := rfl
  have e2 : IntKind.u32.max = 4294967295 := rfl
  omega
theorem trod_struct5 {H : Type} {enc : TypeId × Value → H} {P : Program} {w : World} {base : Nat} {spare : Nat → Bool} {held : Bool} {t : TypeId} {f0 f1 f2 f3 f4 : Field} {fuel : Nat} {cs : List Value} {x : DataW H × List MemPlace} (ht : P.underlying t = some (.struct #[f0, f1, f2, f3, f4])) (h : DataW.trod enc P w base spare held fuel t cs = some x) :
    ∃ y0 y1 y2 y3 y4 n, cs.length = P.cellsOf t ∧ DataW.trod enc P w base spare held n f0.type ((cs.drop f0.offset).take (P.cellsOf f0.type)) = some y0 ∧
      DataW.trod enc P w base spare held n f1.type ((cs.drop f1.offset).take (P.cellsOf f1.type)) = some y1 ∧ DataW.trod enc P w base spare held n f2.type ((cs.drop f2.offset).take (P.cellsOf f2.type)) = some y2 ∧
      DataW.trod enc P w base spare held n f3.type ((cs.drop f3.offset).take (P.cellsOf f3.type)) = some y3 ∧ DataW.trod enc P w base spare held n f4.type ((cs.drop f4.offset).take (P.cellsOf f4.type)) = some y4 := by
  obtain ⟨xs, n, _, _, hl, hlen, hf⟩ := DataW.trod_struct ht h
  match xs, hlen with
  | [y0, y1, y2, y3, y4], _ => exact ⟨y0, y1, y2, y3, y4, n, hl, by simpa using hf 0 f0 rfl, by simpa using hf 1 f1 rfl, by simpa using hf 2 f2 rfl, by simpa using hf 3 f3 rfl, by simpa using hf 4 f4 rfl⟩
set_option maxRecDepth 100000 in
/-- A token that came in. -/
theorem open_tok {H : Type} {enc : TypeId × Value → H} {W : World} {r : Reach} {b0 : Nat} {v : Value} {d : DataW H} {p : List MemPlace}
    (hw : Value.okWide Try.prog W r b0 38 v) (h : DataW.Trod enc Try.prog W 0 (fun _ => true) true 38 v d p) :
    ∃ (k : Nums) (g : List Int), v = .agg (tcell k g).toArray ∧ g.length = 32 ∧ Byts g := by
  simp only [Value.okWide, Try.underlying38] at hw
  obtain ⟨cs, rfl, _⟩ := hw
  obtain ⟨fuel, hf⟩ := h
  obtain ⟨cl, hcl⟩ : ∃ cl : List Value, cs = cl.toArray := ⟨cs.toList, by simp⟩
  subst hcl
  have hf2 : DataW.trod enc Try.prog W 0 (fun _ => true) true fuel 38 cl = some (d, p) := by simpa [Value.cells] using hf
  obtain ⟨y0, y1, y2, y3, y4, n, hl, h0, h1, h2, h3, h4⟩ := trod_struct5 Try.underlying38 hf2
  rw [cellsTok] at hl
  clear hf hf2
  obtain ⟨a, ea, _, wa⟩ := DataW.trod_int Try.underlying22 h0
  obtain ⟨b, eb, _, wb⟩ := DataW.trod_int Try.underlying22 h1
  obtain ⟨c, ec, _, wc⟩ := DataW.trod_int Try.underlying22 h2
  obtain ⟨x, ex, _, wx⟩ := DataW.trod_int Try.underlying27 h3
  obtain ⟨g, hg, hb, eg⟩ := open_dig h4
  simp only [cellsU32, cellsU64, cellsDig] at ea eb ec ex eg
  refine ⟨⟨a, b, c, x, bounds_u32 wa, bounds_u32 wb, bounds_u32 wc, bounds_u64 wx⟩, g, ?_, hg, hb⟩
  match cl, hl with
  | c0 :: c1 :: c2 :: c3 :: cl, hl =>
    simp at ea eb ec ex eg hl
    subst ea eb ec ex
    rw [List.take_of_length_le (by omega)] at eg
    rw [eg]
    rfl

end Go.Proofs.Ytkpdlbcmnfphmaa

namespace Go.Proofs.Ytkpdlbcmnfphmaa
open Go.RowKit

/-- Whether two tokens are the same. -/
def eqT (k l : Nums) (g h : List Int) : Bool := (k.t == l.t) && ((k.u == l.u) && ((k.e == l.e) && ((k.x == l.x) && decide (g = h))))
theorem eqT_iff {k l : Nums} {g h : List Int} : eqT k l g h = true ↔ k = l ∧ g = h := by
  unfold eqT
  simp only [Bool.and_eq_true, beq_iff_eq, decide_eq_true_eq]
  constructor
  · intro ⟨h1, h2, h3, h4, h5⟩
    exact ⟨Nums.ext' h1 h2 h3 h4, h5⟩
  · intro ⟨h1, h2⟩
    rw [h1, h2]
    exact ⟨rfl, rfl, rfl, rfl, rfl⟩
theorem noStoodT : Try.prog.stoodInHeld 38 = false := by kernel_rfl
theorem isAgg_digT (W : World) : (isAgg 29).run Try.prog W = .ok true W := by kernel_rfl
theorem isAgg_u32T (W : World) : (isAgg 22).run Try.prog W = .ok false W := by kernel_rfl
theorem isAgg_u64T (W : World) : (isAgg 27).run Try.prog W = .ok false W := by kernel_rfl
theorem sz_digT (W : World) : (Go.sizeOf 29).run Try.prog W = .ok 32 W := by kernel_rfl
theorem partT_0 (k : Nums) (g : List Int) (W : World) : (Go.part 22 (tcell k g).toArray 0).run Try.prog W = .ok (.int .u32 k.t) W := by
  unfold Go.part
  simp [Sem.run_bind, tcell]
theorem partT_1 (k : Nums) (g : List Int) (W : World) : (Go.part 22 (tcell k g).toArray 1).run Try.prog W = .ok (.int .u32 k.u) W := by
  unfold Go.part
  simp [Sem.run_bind, tcell]
theorem partT_2 (k : Nums) (g : List Int) (W : World) : (Go.part 22 (tcell k g).toArray 2).run Try.prog W = .ok (.int .u32 k.e) W := by
  unfold Go.part
  simp [Sem.run_bind, tcell]
theorem partT_3 (k : Nums) (g : List Int) (W : World) : (Go.part 27 (tcell k g).toArray 3).run Try.prog W = .ok (.int .u64 k.x) W := by
  unfold Go.part
  simp [Sem.run_bind, tcell]
set_option maxRecDepth 100000 in
theorem partT_4 (k : Nums) {g : List Int} (hg : g.length = 32) (W : World) : (Go.part 29 (tcell k g).toArray 4).run Try.prog W = .ok (.agg (g.map (Value.int .u8)).toArray) W := by
  unfold Go.part
  simp [Sem.run_bind, tcell]
  rw [List.take_of_length_le (by simp [hg])]
set_option maxRecDepth 100000 in
theorem eqF_cons {P : Program} {w : World} {d : Nat} {xs ys : Array Value} {f : Field} {fs : List Field} {a b : Value} {r : Bool} (hn : f.name ≠ "_") (ha : (Go.part f.type xs f.offset).run P w = .ok a w) (hb : (Go.part f.type ys f.offset).run P w = .ok b w)
    (hr : (Op.equalIn d f.type a b).run P w = .ok r w) : (Op.eqFields d xs ys (f :: fs)).run P w = if r = true then (Op.eqFields d xs ys fs).run P w else .ok false w := by
  rw [Op.eqFields, if_pos hn]
  simp only [Sem.run_bind, ha, hb, hr, Result.andThen_ok]
  cases r
  · rfl
  · rfl
theorem and_run {w : World} {r s : Bool} {x : Result Bool} (h : x = .ok s w) : (if r = true then x else .ok false w) = .ok (r && s) w := by
  cases r
  · rfl
  · exact h
set_option maxRecDepth 100000 in
theorem eq_tok (k l : Nums) {g h : List Int} (hg : g.length = 32) (hh : h.length = 32) (W : World) : (Op.equalIn 10000 38 (.agg (tcell k g).toArray) (.agg (tcell l h).toArray)).run Try.prog W = .ok (eqT k l g h) W := by
  rw [show (10000 : Nat) = 9999 + 1 from rfl, run_equalIn_struct W 9999 38 _ _ Try.underlying38 noStoodT]
  have E := eq_ints (P := Try.prog) W 9997 Try.underlying29 Try.underlying5 size_u8' g h hg hh
  have A0 := run_equalIn_int (P := Try.prog) W 9998 22 .u32 .u32 k.t l.t Try.underlying22
  have A1 := run_equalIn_int (P := Try.prog) W 9998 22 .u32 .u32 k.u l.u Try.underlying22
  have A2 := run_equalIn_int (P := Try.prog) W 9998 22 .u32 .u32 k.e l.e Try.underlying22
  have A3 := run_equalIn_int (P := Try.prog) W 9998 27 .u64 .u64 k.x l.x Try.underlying27
  have D1 := partT_4 k hg W
  have D2 := partT_4 l hh W
  simp only [Program.fieldsOf, Try.underlying38]
  unfold eqT
  refine (eqF_cons (by decide) (partT_0 k g W) (partT_0 l h W) A0).trans (and_run ?_)
  refine (eqF_cons (by decide) (partT_1 k g W) (partT_1 l h W) A1).trans (and_run ?_)
  refine (eqF_cons (by decide) (partT_2 k g W) (partT_2 l h W) A2).trans (and_run ?_)
  refine (eqF_cons (by decide) (partT_3 k g W) (partT_3 l h W) A3).trans (and_run ?_)
  refine (eqF_cons (by decide) D1 D2 E).trans ?_
  cases decide (g = h)
  · rfl
  · rfl
theorem eq_tok_self (k : Nums) {g : List Int} (hg : g.length = 32) (W : World) : (Op.equalIn 10000 38 (.agg (tcell k g).toArray) (.agg (tcell k g).toArray)).run Try.prog W = .ok true W := by
  rw [eq_tok k k hg hg, eqT_iff.2 ⟨rfl, rfl⟩]

end Go.Proofs.Ytkpdlbcmnfphmaa

namespace Go.Proofs.Ytkpdlbcmnfphmaa
open Go.RowKit

section
variable {P : Program} {ops : Array Oper} {o : Oper} {a : Act} {w : World} {K : Act → World → Prop} {Q : Exit → Act → World → Prop} {E : Prop}
theorem step_bsliceH (d : Nat) (hd : o.dst = some d) (hgd : o.guard = none) (t : TypeId) (n : Nat) (xs : Array (Nat × Operand)) (ho : o.op = .buildSlice t n xs) {v : Value} {us : Array (Nat × Value)} {w' : World} (hx' : (xs.toList.map fun p => (p.1, a.eval p.2)) = us.toList) (hr : (Instr.buildSlice t n us).run P w = .ok v w')
    (h : K (a.put (some d) v) w') : if Region.wanted o (yielded ops a.tmps) = true then Oper.wp P o a w K Q else E := by
  rw [if_pos (by simp [Region.wanted, hgd])]
  exact wp_bsliceN t n xs ho hx' hr (by rw [hd]; exact h)
end
theorem F_both {F J J2 : World → Prop} {w : World} (h1 : J w) (h2 : J2 w) (h : ∀ W, J W → J2 W → F W) : F w := h _ h1 h2
def zero20 : List Value := (List.replicate 20 (0 : Int)).map (Value.int .u8)
theorem size20 : (Try.prog.info? 99).map (·.size) = some 20 := by kernel_rfl
theorem size_msg {M : List Int} (h : M.length = 20) : (Try.prog.info? 99).map (·.size) = some (M.map (Value.int .u8)).length := by rw [List.length_map, h]; exact size20
theorem len_msg {M : List Int} (h : M.length = 20) : zero20.length = (M.map (Value.int .u8)).length := by rw [List.length_map, h]; rfl
theorem bz5 (n : Int) (W : World) : (Instr.build 83 #[(0, .int .u8 5), (1, .int .u64 n)]).run Try.prog W = .ok (.agg (fcell 5 n zeroD).toArray) W := by kernel_rfl

set_option maxRecDepth 100000 in
set_option maxHeartbeats 1600000 in
theorem word_is {n : Int} (h : 0 ≤ n ∧ n ≤ 4294967295) (w : World) : Calls Try.prog 61 #[.int .u32 n] w fun e w' => e = .returned (.agg (fcell 4 n zeroD).toArray) ∧ Below w.heap.size w w' := by
  have hw : IntKind.u64.wrap n = n := by rw [IntKind.wrap_u64]; omega
  go_enter Try.func61, Try.ntmps61
  go_wp2_with (refine wpList_store_box (cs := fcell 4 n zeroD) rfl _ _ _ rfl (Box.newc (l := Fd.zero.v) rfl rfl) rfl rfl (sizeC _ _ _ rfl) rfl (oneC _ _ _) ?_; intro w1 hW1)
  refine bodyPost_ret (results_box (b := w.heap.size) (cs := fcell 4 n zeroD) Try.results61 hW1.box rfl Try.underlying83 rfl (sizeC _ _ _ rfl)) rfl ⟨rfl, hW1.below _ _ (Nat.le_refl _) (by go_grown)⟩

set_option maxRecDepth 100000 in
set_option maxHeartbeats 3200000 in
theorem bytes_is (k : Nums) {g : List Int} (w : World) : Calls Try.prog 52 #[.agg (tcell k g).toArray] w fun e w' => e = .returned (.agg (k.msg.map (Value.int .u8)).toArray) ∧ Below w.heap.size w w' := by
  obtain ⟨ti, hin, hz0, hz1, hz2⟩ := info_parts info_fld
  have A1 := fun W => word_is k.ht W
  have A2 := fun W => word_is k.hu W
  have A3 := fun W => word_is k.he W
  have A4 := fun W => bz5 k.x W
  have HF : Hid (fcell 4 k.t zeroD ++ (fcell 4 k.u zeroD ++ (fcell 4 k.e zeroD ++ fcell 5 k.x zeroD)) = flatR LF k.row) := Lib.hid rfl
  have l1 : (fcell 4 k.t zeroD).length = 34 := rfl
  have l2 : (fcell 4 k.u zeroD).length = 34 := rfl
  have l3 : (fcell 4 k.e zeroD).length = 34 := rfl
  have l4 : (fcell 5 k.x zeroD).length = 34 := rfl
  obtain ⟨V1, e1⟩ : ∃ V, fcell 4 k.t zeroD = V := ⟨_, rfl⟩
  obtain ⟨V2, e2⟩ : ∃ V, fcell 4 k.u zeroD = V := ⟨_, rfl⟩
  obtain ⟨V3, e3⟩ : ∃ V, fcell 4 k.e zeroD = V := ⟨_, rfl⟩
  obtain ⟨V4, e4⟩ : ∃ V, fcell 5 k.x zeroD = V := ⟨_, rfl⟩
  rw [e1] at A1 l1 HF
  rw [e2] at A2 l2 HF
  rw [e3] at A3 l3 HF
  rw [e4] at A4 l4 HF
  have E4 := Lib.hid e4
  have HBS := Lib.hid (fun W => run_bsliceN (P := Try.prog) (n := 4) W 85 83 ti _ 34 Try.underlying85 hin hz0 hz1 rfl [V1, V2, V3, V4] (by simp [l1, l2, l3, l4]) (by decide) (by simp) #[(0, .agg V1.toArray), (1, .agg V2.toArray), (2, .agg V3.toArray), (3, .agg V4.toArray)] rfl rfl (by decide))
  have WR := fun (W : World) (v : Value) (h : IsR LF W v k.row) => fwrite_is W h
  rw [rowV_ok k.row_e, k.row_e, k.row_b] at WR
  have hm := k.msg_len
  obtain ⟨M, hM⟩ : ∃ M, k.msg = M := ⟨_, rfl⟩
  rw [hM] at WR hm ⊢
  have HM := Lib.hid hm
  have IM := Lib.hid (size_msg hm)
  have LM := Lib.hid (len_msg hm)
  obtain ⟨V, hV⟩ : ∃ V, tcell k g = V := ⟨_, rfl⟩
  have v0 : V[0]? = some (.int .u32 k.t) := by rw [← hV]; rfl
  have v1 : V[1]? = some (.int .u32 k.u) := by rw [← hV]; rfl
  have v2 : V[2]? = some (.int .u32 k.e) := by rw [← hV]; rfl
  have v3 : V[3]? = some (.int .u64 k.x) := by rw [← hV]; rfl
  rw [hV]
  clear hV hM hm e1 e2 e3 e4 l1 l2 l3 l4
  have hx : Box ((w.alloc (.cells V.toArray 38)).alloc (.cells zero20.toArray 99)) w.heap.size V := Box.alloc (Box.newc rfl rfl) _
  have hr : Box ((w.alloc (.cells V.toArray 38)).alloc (.cells zero20.toArray 99)) (w.heap.size + 1) zero20 := Box.newc rfl (by simp)
  have hB : Below w.heap.size w ((w.alloc (.cells V.toArray 38)).alloc (.cells zero20.toArray 99)) := by go_grown
  go_enter Try.func52, Try.ntmps52
  go_upto_region 2 with fail
  refine wp_region_held_drew (S := fun w' => Box w' w.heap.size V) (by kernel_rfl) (hx.drew) (fun _ => ?_)
  refine F_drew (F := fun W => wpAnyH _ _ _ _ _ _ _ _ W) ?_
  intro W0 hb0
  have hx0 := hx.below hb0; have hr0 := hr.below hb0; have hB0 := below_thru hB hb0
  clear hx hr hB hb0
  refine takeH 0 7 (v := ?vt0_1) rfl (by rfl) (by kernel_rfl) (by kernel_rfl) (by kernel_rfl) (fun _ _ _ h => h) (Or.inl ⟨by rfl, ?_⟩) (hx0) ?_
  rotate_left
  · intro wq hSq
    go_simp
    exact rfl
  try simp only [Act.put, List.setIfInBounds_toArray, List.set_cons_zero, List.set_cons_succ]
  refine takeH 1 8 (v := ?vt1_2) rfl (by rfl) (by kernel_rfl) (by kernel_rfl) (by kernel_rfl) (fun _ _ _ h => h) (Or.inl ⟨by rfl, ?_⟩) (hx0) ?_
  rotate_left
  · intro wq hSq
    go_simp
    exact rfl
  try simp only [Act.put, List.setIfInBounds_toArray, List.set_cons_zero, List.set_cons_succ]
  refine takeH 2 9 (v := ?vt2_3) rfl (by rfl) (by kernel_rfl) (by kernel_rfl) (by kernel_rfl) (fun _ _ _ h => h) (Or.inl ⟨by rfl, ?_⟩) (hx0) ?_
  rotate_left
  · intro wq hSq
    have cq := hSq.c 0 _ v0
    have zq := lt_of_cell cq
    go_simp
    exact rfl
  try simp only [Act.put, List.setIfInBounds_toArray, List.set_cons_zero, List.set_cons_succ]
  refine takeH 4 11 (v := ?vt4_4) rfl (by rfl) (by kernel_rfl) (by kernel_rfl) (by kernel_rfl) (fun _ _ _ h => h) (Or.inl ⟨by rfl, ?_⟩) (hx0) ?_
  rotate_left
  · intro wq hSq
    go_simp
    exact rfl
  try simp only [Act.put, List.setIfInBounds_toArray, List.set_cons_zero, List.set_cons_succ]
  refine takeH 5 12 (v := ?vt5_5) rfl (by rfl) (by kernel_rfl) (by kernel_rfl) (by kernel_rfl) (fun _ _ _ h => h) (Or.inl ⟨by rfl, ?_⟩) (hx0) ?_
  rotate_left
  · intro wq hSq
    go_simp
    exact rfl
  try simp only [Act.put, List.setIfInBounds_toArray, List.set_cons_zero, List.set_cons_succ]
  refine takeH 6 13 (v := ?vt6_6) rfl (by rfl) (by kernel_rfl) (by kernel_rfl) (by kernel_rfl) (fun _ _ _ h => h) (Or.inl ⟨by rfl, ?_⟩) (hx0) ?_
  rotate_left
  · intro wq hSq
    have cq := hSq.c 1 _ v1
    have zq := lt_of_cell cq
    go_simp
    exact rfl
  try simp only [Act.put, List.setIfInBounds_toArray, List.set_cons_zero, List.set_cons_succ]
  refine takeH 8 15 (v := ?vt8_7) rfl (by rfl) (by kernel_rfl) (by kernel_rfl) (by kernel_rfl) (fun _ _ _ h => h) (Or.inl ⟨by rfl, ?_⟩) (hx0) ?_
  rotate_left
  · intro wq hSq
    go_simp
    exact rfl
  try simp only [Act.put, List.setIfInBounds_toArray, List.set_cons_zero, List.set_cons_succ]
  refine takeH 9 16 (v := ?vt9_8) rfl (by rfl) (by kernel_rfl) (by kernel_rfl) (by kernel_rfl) (fun _ _ _ h => h) (Or.inl ⟨by rfl, ?_⟩) (hx0) ?_
  rotate_left
  · intro wq hSq
    go_simp
    exact rfl
  try simp only [Act.put, List.setIfInBounds_toArray, List.set_cons_zero, List.set_cons_succ]
  refine takeH 10 17 (v := ?vt10_9) rfl (by rfl) (by kernel_rfl) (by kernel_rfl) (by kernel_rfl) (fun _ _ _ h => h) (Or.inl ⟨by rfl, ?_⟩) (hx0) ?_
  rotate_left
  · intro wq hSq
    have cq := hSq.c 2 _ v2
    have zq := lt_of_cell cq
    go_simp
    exact rfl
  try simp only [Act.put, List.setIfInBounds_toArray, List.set_cons_zero, List.set_cons_succ]
  refine takeH 12 19 (v := ?vt12_10) rfl (by rfl) (by kernel_rfl) (by kernel_rfl) (by kernel_rfl) (fun _ _ _ h => h) (Or.inl ⟨by rfl, ?_⟩) (hx0) ?_
  rotate_left
  · intro wq hSq
    go_simp
    exact rfl
  try simp only [Act.put, List.setIfInBounds_toArray, List.set_cons_zero, List.set_cons_succ]
  refine takeH 13 20 (v := ?vt13_11) rfl (by rfl) (by kernel_rfl) (by kernel_rfl) (by kernel_rfl) (fun _ _ _ h => h) (Or.inl ⟨by rfl, ?_⟩) (hx0) ?_
  rotate_left
  · intro wq hSq
    have cq := hSq.c 3 _ v3
    have zq := lt_of_cell cq
    go_simp
    exact rfl
  try simp only [Act.put, List.setIfInBounds_toArray, List.set_cons_zero, List.set_cons_succ]
  refine takeH 14 21 (v := .agg V4.toArray) rfl (by rfl) (by kernel_rfl) (by kernel_rfl) (by kernel_rfl) (fun _ _ _ h => h) (Or.inl ⟨by rfl, ?_⟩) (hx0) ?_
  · intro wq hSq
    go_simp
    exact E4.out
  try simp only [Act.put, List.setIfInBounds_toArray, List.set_cons_zero, List.set_cons_succ]
  refine wpAnyH_ready (rs := [3]) (by kernel_rfl) (by simp) (AllReadyH.cons rfl (fun K hK => ?_) AllReadyH.nil)
  go_simp
  refine (A1 _).mono ?_
  rintro e W12 ⟨rfl, hb12⟩
  have hx12 := Box.below hx0 hb12; have hr12 := Box.below hr0 hb12; have hB12 := below_thru hB0 hb12
  have sz12 := hr12.lt
  refine hK.out _ _ hx12 (fun _ => ?_); clear hK K
  refine wpAnyH_ready (rs := [7]) (by kernel_rfl) (by simp) (AllReadyH.cons rfl (fun K hK => ?_) AllReadyH.nil)
  go_simp
  refine (A2 _).mono ?_
  rintro e W13 ⟨rfl, hb13⟩
  have hx13 := Box.below hx12 hb13; have hr13 := Box.below hr12 hb13; have hB13 := below_thru hB12 hb13
  have sz13 := hr13.lt
  refine hK.out _ _ hx13 (fun _ => ?_); clear hK K
  refine wpAnyH_ready (rs := [11]) (by kernel_rfl) (by simp) (AllReadyH.cons rfl (fun K hK => ?_) AllReadyH.nil)
  go_simp
  refine (A3 _).mono ?_
  rintro e W14 ⟨rfl, hb14⟩
  have hx14 := Box.below hx13 hb14; have hr14 := Box.below hr13 hb14; have hB14 := below_thru hB13 hb14
  have sz14 := hr14.lt
  refine hK.out _ _ hx14 (fun _ => ?_); clear hK K
  refine wpAnyH_ready (rs := [15]) (by kernel_rfl) (by simp) (AllReadyH.cons rfl (fun K hK => ?_) AllReadyH.nil)
  refine step_bsliceH 22 rfl rfl 85 4 _ rfl (us := #[(0, .agg V1.toArray), (1, .agg V2.toArray), (2, .agg V3.toArray), (3, .agg V4.toArray)]) (by rfl) (HBS.out _) ?_
  refine hK.out _ _ (Box.alloc hx14 _) (fun _ => ?_); clear hK K
  refine F_both (F := fun W => wpAnyH _ _ _ _ _ _ _ _ W) (J := fun W => IsR LF W (.slice (some ⟨W14.heap.size, 0, none⟩) 4 4) k.row) (J2 := fun W => Below W14.heap.size W14 W) (IsR.built (L := LF) (w := W14) (t := 83) k.row rfl (by rw [← HF.out]; simp) rfl rfl (by show 4 ≤ 1000; decide)) ((Below.refl _ _).alloc (Nat.le_refl _) _) ?_
  intro W15 hrow hb15
  have hx15 := Box.below hx14 hb15; have hr15 := Box.below hr14 hb15; have hB15 := below_thru hB14 hb15
  have sz15 := hr15.lt
  refine wpAnyH_ready (rs := [16]) (by kernel_rfl) (by simp) (AllReadyH.cons rfl (fun K hK => ?_) AllReadyH.nil)
  go_simp
  refine (WR _ _ hrow).mono ?_
  rintro e W16 ⟨vm, rfl, hm, hb16⟩
  have hx16 := Box.below hx15 hb16; have hr16 := Box.below hr15 hb16; have hB16 := below_thru hB15 hb16
  have sz16 := hr16.lt
  obtain ⟨am, cm, rfl, im, _⟩ := id hm
  obtain ⟨bm, om, rfl, hrm⟩ := IsL.rangeOf hm (by have := HM.out; omega)
  have hcm := im.room
  rw [HM.out] at hcm ⊢
  have hA : ∀ W, (Instr.arrayAt 99 (.slice (some ⟨bm, om, none⟩) 20 cm)).run Try.prog W = .ok (.pointer (some ⟨bm, om, none⟩)) W := fun W => run_arrayAt W 99 _ 20 _ 20 _ Try.underlying99 (Nat.le_refl _)
  clear im hm
  refine hK.out _ _ hx16 (fun _ => ?_); clear hK K
  refine takeH 17 6 (v := ?vt17_17) rfl (by rfl) (by kernel_rfl) (by kernel_rfl) (by kernel_rfl) (fun _ _ _ h => h) (Or.inl ⟨by rfl, ?_⟩) (hx16) ?_
  rotate_left
  · intro wq hSq
    go_simp
    exact rfl
  try simp only [Act.put, List.setIfInBounds_toArray, List.set_cons_zero, List.set_cons_succ]
  refine takeH 18 24 (v := ?vt18_18) rfl (by rfl) (by kernel_rfl) (by kernel_rfl) (by kernel_rfl) (fun _ _ _ h => h) (Or.inl ⟨by rfl, ?_⟩) (hx16) ?_
  rotate_left
  · intro wq hSq
    go_simp
    exact rfl
  try simp only [Act.put, List.setIfInBounds_toArray, List.set_cons_zero, List.set_cons_succ]
  refine takeH 19 25 (v := ?vt19_19) rfl (by rfl) (by kernel_rfl) (by kernel_rfl) (by kernel_rfl) (fun _ _ _ h => h) (Or.inl ⟨by rfl, ?_⟩) (hx16) ?_
  rotate_left
  · intro wq hSq
    go_simp
    exact rfl
  try simp only [Act.put, List.setIfInBounds_toArray, List.set_cons_zero, List.set_cons_succ]
  refine takeH 20 4 (v := ?vt20_20) rfl (by rfl) (by kernel_rfl) (by kernel_rfl) (by kernel_rfl) (fun _ _ _ h => h) (Or.inl ⟨by rfl, ?_⟩) (hx16) ?_
  rotate_left
  · intro wq hSq
    go_simp
    exact rfl
  try simp only [Act.put, List.setIfInBounds_toArray, List.set_cons_zero, List.set_cons_succ]
  refine takeH 21 5 (v := ?vt21_21) rfl (by rfl) (by kernel_rfl) (by kernel_rfl) (by kernel_rfl) (fun _ _ _ h => h) (Or.inl ⟨by rfl, ?_⟩) (hx16) ?_
  rotate_left
  · intro wq hSq
    go_simp
    exact rfl
  try simp only [Act.put, List.setIfInBounds_toArray, List.set_cons_zero, List.set_cons_succ]
  refine wpAnyH_done (by kernel_rfl) ?_ _
  go_wp2_with (first | (refine wpList_load_range rfl _ _ rfl hrm rfl Try.underlying99 rfl IM.out ?_) | (refine wpList_store_box (cs := M.map (Value.int .u8)) rfl _ _ _ rfl hr16 rfl rfl IM.out LM.out (oneCell_ints _) ?_; intro w9 hW9))
  exact bodyPost_ret (results_box Try.results52 hW9.box rfl Try.underlying99 rfl IM.out) rfl ⟨rfl, hW9.below _ _ (by omega) hB16⟩


end Go.Proofs.Ytkpdlbcmnfphmaa

namespace Go.Proofs.Ytkpdlbcmnfphmaa
open Go.RowKit

theorem zeroCells_one (z : Value) (k : Nat) : Builtin.zeroCells #[z] k = (List.replicate k z).toArray := by
  apply Array.ext
  · simp [Builtin.zeroCells]
  · intro i h1 h2
    simp [Builtin.zeroCells, Nat.mod_one]
theorem run_append_zeros {P : Program} (w : World) (base : Nat) (t tn ty e : TypeId) (i : TypeInfo) (z : Value) (kq kn : IntKind) (ht : P.underlying t = some (.slice e)) (htn : P.underlying tn = some (.int kn)) (hi : P.info? e = some i) (hz : i.zero = some z)
    (hsize : i.size = 1) (hby : i.bytes = 1) (hzs : z.cells = #[z]) (h1z : z.oneCell' = true) (v : Value) (n : Nat) (xs : List Value) (hown : w.ownsRow base e 1 v n xs) (k : Nat) (hk : n + k ≤ 1000000) (hbase : base ≤ w.heap.size) :
    ∃ v' w', (Builtin.append_ #[t, tn] ty #[v, .int kq k]).run P w = .ok v' w' ∧ w'.ownsRow base e 1 v' (n + k) (xs ++ List.replicate k z) ∧ w.grownBy w' v.ownBlock := by
  have hw : IntKind.i64.wrap (k : Int) = k := by rw [IntKind.wrap_i64]; omega
  have hneg : ¬ ((k : Int) < 0) := by omega
  have h48i : ¬ (281474976710656 < (k : Int) * 1) := by omega
  have h48j : ¬ (281474976710656 < (k : Int)) := by omega
  have hlen : (xs ++ List.replicate k z).length = (n + k) * 1 := by rw [List.length_append, hown.1, List.length_replicate]; omega
  have hm63 : n + k ≤ maxLen := by unfold maxLen; omega
  have grown : ∀ (old : Nat) (row : Option Nat),
      (w.drew.alloc (.cells (xs.toArray ++ Builtin.zeroCells z.cells k ++ Builtin.zeroCells z.cells (grownCap w (n + k) old e - (n + k))) e)).ownsRow base e 1
        (.slice (some ⟨w.heap.size, 0, none⟩) (n + k) (grownCap w (n + k) old e)) (n + k) (xs ++ List.replicate k z) ∧
      w.grownBy (w.drew.alloc (.cells (xs.toArray ++ Builtin.zeroCells z.cells k ++ Builtin.zeroCells z.cells (grownCap w (n + k) old e - (n + k))) e)) row := by
    intro old row
    have hge := grownCap_ge w (n + k) old e
    have hcm : grownCap w (n + k) old e ≤ maxLen := grownCap_le_maxLen w (n + k) old e hm63
    rw [hzs, zeroCells_one, zeroCells_one]
    refine ⟨⟨hlen, .inr ⟨w.heap.size, _, _, rfl, hbase, heap_alloc_new w.drew _, hge, hcm, ?_, ?_⟩⟩, ⟨rfl, rfl, rfl, by simp, fun k hk _ => heap_alloc_old w.drew _ hk⟩⟩
    · have := hown.1
      simp only [Array.size_append, List.size_toArray, List.length_replicate]
      omega
    · simp only [Array.toList_append]
      rw [← hlen]
      exact List.take_left
  rcases hown.2 with ⟨rfl, rfl⟩ | ⟨g, cap, cur, rfl, hbg, hg, hnc, hcm, hcs, htake⟩
  · have hx : xs = [] := List.eq_nil_of_length_eq_zero (by simpa using hown.1)
    subst hx
    by_cases hk0 : k = 0
    · subst hk0
      refine ⟨.slice none 0 0, w, ?_, World.ownsRow_nil w base e 1, ⟨rfl, rfl, rfl, Nat.le_refl _, fun _ _ _ => rfl⟩⟩
      simp [Builtin.append_, run_underlying ht, run_underlying htn, sizeOf, typeInfo, hi, asInt, asIntOf, show IntKind.i64.wrap 0 = 0 from rfl]
    · have hr := Lib.run_append_nil_zeros (P := P) w t tn ty e i z kq kn ht htn hi hz k (by omega) (by omega) (by omega) (by rw [hby]; omega)
      have hgr := grown 0 (Value.ownBlock (.slice none 0 0))
      simp only [Nat.zero_add, List.nil_append, Array.empty_append] at hgr ⊢
      exact ⟨_, _, hr, hgr.1, hgr.2⟩
  · by_cases hroom : n + k ≤ cap
    · by_cases hk0 : k = 0
      · subst hk0
        refine ⟨.slice (some ⟨g, 0, none⟩) (n + 0) cap, w, ?_, by simpa using hown, ⟨rfl, rfl, rfl, Nat.le_refl _, fun _ _ _ => rfl⟩⟩
        simp [Builtin.append_, run_underlying ht, run_underlying htn, sizeOf, typeInfo, hi, asInt, asIntOf, show IntKind.i64.wrap 0 = 0 from rfl, hnc, storeCells]
      · have hfit : n + 0 + (List.replicate k z).length ≤ cur.size := by rw [List.length_replicate, hcs]; omega
        have hst := run_storeCells_at P g n e (List.replicate k z) 0 cur w hg hfit (fun u hu => by obtain ⟨_, rfl⟩ := List.mem_replicate.1 hu; exact h1z)
        rw [Nat.add_zero] at hst
        refine ⟨.slice (some ⟨g, 0, none⟩) (n + k) cap, _, ?_, ⟨hlen, .inr ⟨g, cap, _, rfl, hbg, setRow_heap w g cur (cur.toList.take n ++ List.replicate k z ++ cur.toList.drop (n + (List.replicate k z).length)).toArray e _ hg, hroom, hcm, ?_, ?_⟩⟩, ⟨rfl, rfl, rfl, by simp, fun k _ hk => setRow_other w g k _ (fun e => hk (by simp [Value.ownBlock, e]))⟩⟩
        · have hadd : (⟨g, 0, none⟩ : Addr).add n = ⟨g, n, none⟩ := by rw [Go.WideShapes.add_plain, Nat.zero_add]
          simp [Builtin.append_, run_underlying ht, run_underlying htn, sizeOf, typeInfo, zeroValue, hi, hz, hsize, hby, asInt, asIntOf, hw, hneg, h48j, hk0, hroom, hzs, zeroCells_one, hadd]
          rw [hst]
          simp
        · simp only [List.size_toArray, List.length_append, List.length_take, List.length_drop, Array.length_toList, List.length_replicate]
          omega
        · rw [show cur.toList.take n = xs by rw [← htake, Nat.mul_one], ← hlen]
          exact List.take_left
    · have hold : (Builtin.firstCells i.size n (.slice (some ⟨g, 0, none⟩) n cap)).run P w.drew = .ok xs.toArray w.drew := by
        have hl := run_loadCells_list (P := P) w.drew ⟨g, 0, none⟩ xs (fun j u hu => hown.cells (g := g) rfl j u hu)
        rw [hown.1] at hl
        simpa [Builtin.firstCells, hsize] using hl
      have hr := Lib.run_append_grow_zeros (P := P) w t tn ty e i z kq kn ht htn hi hz (some ⟨g, 0, none⟩) n cap xs hold k (by omega) (by omega) (by omega) (by omega) (by rw [hby]; omega) (by rw [hby]; exact growslice_fits (by omega) (by omega))
      have hgr := grown cap (Value.ownBlock (.slice (some ⟨g, 0, none⟩) n cap))
      exact ⟨_, _, hr, hgr.1, hgr.2⟩
theorem wpList_append_zeros {P : Program} {w : World} {ops : Array Oper} {rest : List Oper} {o : Oper} {a : Act} {Q : Exit → Act → World → Prop} (hgd : o.guard = none) (s x : Operand) (t tn : TypeId)
    (ho : o.op = .call { callee := .builtin .append, args := #[s, x], argTypes := #[t, tn] }) (base : Nat) (e : TypeId) (i : TypeInfo) (z : Value) (kq kn : IntKind) (ht : P.underlying t = some (.slice e)) (htn : P.underlying tn = some (.int kn)) (hi : P.info? e = some i) (hz : i.zero = some z)
    (hsize : i.size = 1) (hby : i.bytes = 1) (hzs : z.cells = #[z]) (h1z : z.oneCell' = true) (v : Value) (n : Nat) (xs : List Value) (k : Nat) (hs : a.eval s = v) (hx : a.eval x = .int kq (k : Int)) (hown : w.ownsRow base e 1 v n xs) (hk : n + k ≤ 1000000) (hbase : base ≤ w.heap.size)
    (h : ∀ v' w', w'.ownsRow base e 1 v' (n + k) (xs ++ List.replicate k z) → w.grownBy w' v.ownBlock → wpList P ops Q rest (a.put o.dst v') w') : wpList P ops Q (o :: rest) a w := by
  obtain ⟨v', w', hr, h2, h3⟩ := run_append_zeros (P := P) w base t tn o.type e i z kq kn ht htn hi hz hsize hby hzs h1z v n xs hown k hk hbase
  exact Lib.wpList_append_run w hgd s x t tn ho _ _ hs hx v' w' hr (h v' w' h2 h3)

end Go.Proofs.Ytkpdlbcmnfphmaa

namespace Go.Proofs.Ytkpdlbcmnfphmaa
open Go.RowKit

theorem own_cut {w : World} {B e n g cap : Nat} {l : List Value} (h : w.ownsRow B e 1 (.slice (some ⟨g, 0, none⟩) n cap) n l) : w.ownsRow B e 1 (.slice (some ⟨g, 0, none⟩) 0 cap) ([] : List Int).length (([] : List Int).map (Value.int .u8)) := by
  obtain ⟨_, ⟨h1, _⟩ | ⟨g', cap', cur, h1, hb, hg, h2, h3, h4, h5⟩⟩ := h
  · cases h1
  · injection h1 with e1 e2 e3
    cases e1
    subst e3
    exact ⟨rfl, .inr ⟨g, cap, cur, rfl, hb, hg, Nat.zero_le _, h3, h4, by simp⟩⟩

set_option maxRecDepth 100000 in
set_option maxHeartbeats 1600000 in
theorem grow_is (n : Nat) (hn : n ≤ 100000) (w : World) : Calls Try.prog 41 #[.slice none 0 0, .int .i64 n] w (GivesOwn [] w) := by
  obtain ⟨ti, hin, hz0, hz1, hz2⟩ := info_parts info_u8'
  have i0 : (0 : Int) ≤ (n : Int) := by omega
  by_cases h0 : n = 0
  · subst h0
    have d1 : decide (((0 : Nat) : Int) > 0) = false := by decide
    go_enter Try.func41, Try.ntmps41
    go_wp2_with fail
    go_returns
    exact ⟨_, rfl, ownU_nil, Below.refl _ _⟩
  · have i1 : (0 : Int) < (n : Int) := by omega
    go_enter Try.func41, Try.ntmps41
    go_wp2_with (at_builtin; refine wpList_append_zeros rfl _ _ 33 3 rfl w.heap.size 5 ti (.int .u8 0) .i64 .i64 Try.underlying33 Try.underlying3 hin hz0 hz1 hz2 rfl rfl (.slice none 0 0) 0 [] n rfl rfl ownU_nil (by omega) (Nat.le_refl _) ?_; intro va wa hoa hga)
    have hB : Below w.heap.size w wa := (Below.refl _ w).grown hga (Nat.le_refl _) (by intro k hk; cases hk)
    obtain ⟨aa, ca, rfl, hl1, hl2⟩ : ∃ g c, va = .slice (some ⟨g, 0, none⟩) n c ∧ n ≤ c ∧ c ≤ 9223372036854775807 := by
      rcases hoa.2 with ⟨h', q⟩ | ⟨g', cap', cur, h', _, _, q1, q2, _⟩
      · omega
      · exact ⟨g', cap', by simpa using h', by omega, by unfold maxLen at q2; omega⟩
    have hoc := own_cut (n := n) (l := [] ++ List.replicate n (.int .u8 0)) (by simpa using hoa)
    clear hoa hga
    have q1 : ¬ ((ca : Int) < 0) := by omega
    have q2 : (0 : Int) ≤ (ca : Int) := by omega
    go_wp2_with fail
    go_returns
    exact ⟨_, rfl, hoc, hB⟩

theorem flat_take_succ (xss : List (List Int)) (k : Nat) (h : k < xss.length) : (xss.take (k + 1)).flatten = (xss.take k).flatten ++ xss[k] := by
  rw [List.take_succ_eq_append_getElem h, List.flatten_append]
  simp
theorem flat_take_le (xss : List (List Int)) (k : Nat) : (xss.take k).flatten.length ≤ xss.flatten.length := by
  conv => rhs; rw [← List.take_append_drop k xss]
  rw [List.flatten_append, List.length_append]
  omega

set_option maxRecDepth 100000 in
set_option maxHeartbeats 1600000 in
theorem concat_is {b n : Nat} {vs : List Value} {xss : List (List Int)} (w : World) (hb : Box w b vs) (hL : ∀ (i : Nat) (v : Value) (xs : List Int), vs[i]? = some v → xss[i]? = some xs → IsL w .u8 v xs) (hv : n = vs.length) (hx : n = xss.length) (hn : n ≤ 1000) (hs : xss.flatten.length ≤ 100000) :
    Calls Try.prog 26 #[.slice (some ⟨b, 0, none⟩) n n] w (GivesOwn xss.flatten w) := by
  obtain ⟨ti, hin, hz0, hz1, hz2⟩ := info_parts info_u8'
  have HL := Lib.hid hL
  have HV := Lib.hid hv
  have HX := Lib.hid hx
  have HT := fun k => flat_take_le xss k
  have HS := Lib.hid (flat_take_succ xss)
  have zb := hb.lt
  clear hL hv hx
  go_enter Try.func26, Try.ntmps26
  go_wp2_with fail
  go_loopw [3, 11] (fun s3 s11 wr => ∃ k : Nat, s11 = .int .i64 k ∧ s3 = .int .i64 ((xss.take k).flatten.length : Nat) ∧ k ≤ n ∧ Below w.heap.size w wr) (fun _ s11 _ => n - (intOf s11).toNat)
  case atStart => exact ⟨0, rfl, rfl, by omega, Below.refl _ _⟩
  case round =>
    obtain ⟨k, rfl, rfl, hk, hB⟩ := hrel
    have hs0 := hB.size
    by_cases hlt : k < n
    case pos =>
      obtain ⟨v, hve⟩ : ∃ v, vs[k]? = some v := ⟨_, List.getElem?_eq_getElem (by have := HV.out; omega)⟩
      have hkx : k < xss.length := by have := HX.out; omega
      have hl1 := HL.out k v _ hve (List.getElem?_eq_getElem hkx)
      have ht := HS.out k hkx
      have c1 := cell_below hB (hb.c k v hve)
      obtain ⟨xs, hxs⟩ : ∃ xs, xss[k] = xs := ⟨_, rfl⟩
      rw [hxs] at hl1 ht
      obtain ⟨av, cv, rfl, hi, _⟩ := hl1
      have hi1 := hi.room
      have hi2 := hi.most
      have hle := HT (k + 1)
      rw [ht, List.length_append] at hle
      have HE := Lib.hid (show (((xss.take (k + 1)).flatten.length : Nat) : Int) = ((xss.take k).flatten.length : Nat) + (xs.length : Nat) by rw [ht, List.length_append]; omega)
      obtain ⟨S, hS⟩ : ∃ S, (xss.take k).flatten.length = S := ⟨_, rfl⟩
      rw [hS] at hle HE ⊢
      have zr := lt_of_cell c1
      clear hve hxs hi ht hS
      have i0 : (0 : Int) ≤ (S : Int) := by omega
      have i1 : (0 : Int) ≤ (xs.length : Int) := by omega
      have i3 : (S : Int) + (xs.length : Int) ≤ 100000 := by omega
      have i4 : (k : Int) < (n : Int) := by omega
      have i5 : decide ((S : Int) + (xs.length : Int) < 0) = false := decide_eq_false (by omega)
      go_wp2_with fail
      go_roundw
      case rel => exact ⟨k + 1, by go_num, by rw [HE.out], by omega, hB⟩
      case measure => simp [intOf]; omega
    case neg =>
      obtain rfl : k = n := by omega
      have HK := Lib.hid (show xss.take k = xss from List.take_of_length_le (by have := HX.out; omega))
      rw [HK.out]
      obtain ⟨S, hS⟩ : ∃ S, xss.flatten.length = S := ⟨_, rfl⟩
      rw [hS] at hs ⊢
      have HSS := Lib.hid hS
      clear hS
      go_wp2_with fail
      refine (grow_is S hs _).mono ?_
      rintro e w1 ⟨v1, rfl, ho1, hb1⟩
      have hB1 := below_thru hB hb1
      have ho2 := ownR_base ho1 hB.size
      clear ho1 hb1
      go_wp2_with fail
      go_loopw [6, 27] (fun s6 s27 wr => ∃ j m : Nat, s27 = .int .i64 j ∧ j ≤ k ∧ Hid (wr.ownsRow w.heap.size 5 1 s6 m ((xss.take j).flatten.map (Value.int .u8))) ∧ Hid (m = (xss.take j).flatten.length) ∧ Below w.heap.size w wr) (fun _ s27 _ => k - (intOf s27).toNat)
      case atStart => exact ⟨0, 0, rfl, by omega, Lib.hid ho2, Lib.hid rfl, hB1⟩
      case round =>
        clear hB1 ho2 hB hs0
        obtain ⟨j, m, rfl, hj, HO, HM, hB⟩ := hrel
        have hs2 := hB.size
        by_cases hlt2 : j < k
        case pos =>
          obtain ⟨v, hve⟩ : ∃ v, vs[j]? = some v := ⟨_, List.getElem?_eq_getElem (by have := HV.out; omega)⟩
          have hkx : j < xss.length := by have := HX.out; omega
          have hl1 := (HL.out j v _ hve (List.getElem?_eq_getElem hkx)).below hB
          have ht := HS.out j hkx
          have c1 := cell_below hB (hb.c j v hve)
          have hle := HT (j + 1)
          obtain ⟨xs, hxs⟩ : ∃ xs, xss[j] = xs := ⟨_, rfl⟩
          rw [hxs] at hl1 ht
          rw [ht, List.length_append, HSS.out, ← HM.out] at hle
          have HT2 := Lib.hid ht
          obtain ⟨av, cv, rfl, hi, h0⟩ := hl1
          have zr := lt_of_cell c1
          have i4 : (j : Int) < (k : Int) := by omega
          clear hve hxs ht hkx
          go_wp2_with (at_builtin; refine wpList_append_ints rfl _ _ 33 rfl w.heap.size 5 ti (.int .u8 0) 1 .u8 Try.underlying33 hin hz0 hz1 hz2 rfl _ m _ rfl HO.out av cv xs rfl hi h0 (by unfold maxLen; omega) (by omega) hs2 ?_; intro v4 w4 hown4 hgrow4)
          have hB4 := hB.grown hgrow4 hs2 (own_block HO.out)
          have HO4 : Hid (w4.ownsRow w.heap.size 5 1 v4 (m + xs.length) ((xss.take (j + 1)).flatten.map (Value.int .u8))) := Lib.hid (by rw [HT2.out, List.map_append]; exact hown4)
          have HM4 : Hid (m + xs.length = (xss.take (j + 1)).flatten.length) := Lib.hid (by rw [HT2.out, List.length_append, ← HM.out])
          clear hown4 hgrow4 HO hi h0
          go_wp2_with fail
          go_roundw
          case rel => exact ⟨j + 1, m + xs.length, by go_num, by omega, HO4, HM4, hB4⟩
          case measure => simp [intOf]; omega
        case neg =>
          obtain rfl : j = k := by omega
          go_wp2_with fail
          go_returns
          refine ⟨_, rfl, ?_, hB⟩
          have h1 := HO.out
          rw [HK.out] at h1
          have h2 := HM.out
          rw [HK.out] at h2
          rwa [h2] at h1

end Go.Proofs.Ytkpdlbcmnfphmaa

namespace Go.Proofs.Ytkpdlbcmnfphmaa
open Go.RowKit

/-- Two rows, which read so in a world, whatever world that is. -/
def GivesTwo (xs ys : List Int) (y w : World) (e : Ending) (w' : World) : Prop := ∃ v u, e = .returned (.tuple #[v, u]) ∧ IsL y .u8 v xs ∧ IsL y .u8 u ys ∧ Below w.heap.size w w'
theorem IsL.recap {w : World} {k : IntKind} {b off n c : Nat} {xs : List Int} (h : IsL w k (.slice (some ⟨b, off, Option.none⟩) n c) xs) {a' : Option Addr} {m : Nat} (hm : m ≤ xs.length) (ha : a' = some ⟨b, off, Option.none⟩) : IsL w k (.slice a' m m) (xs.take m) := by
  subst ha
  obtain ⟨a0, c0, e, hi, _⟩ := h.taken hm
  injection e with e1 e2 e3
  subst e1 e3
  have l1 : (xs.take m).length = m := by rw [List.length_take]; omega
  have q1 := hi.room
  have q2 := hi.most
  exact ⟨_, m, by rw [l1], ⟨by omega, by omega, hi.cells⟩, fun q => by cases q⟩
theorem IsL.empty {w : World} {k : IntKind} {a : Option Addr} {c : Nat} (h : c ≤ 9223372036854775807) (h0 : a = Option.none → c = 0) : IsL w k (.slice a 0 c) [] := ⟨a, c, rfl, ⟨Nat.zero_le _, h, fun q => absurd q (by simp)⟩, h0⟩

set_option maxRecDepth 100000 in
set_option maxHeartbeats 1600000 in
theorem split_long {v : Value} {bs : List Int} (y w : World) (h1 : IsL y .u8 v bs) (hl : 20 ≤ bs.length) : Calls Try.prog 62 #[v] w (GivesTwo (bs.take 20) (bs.drop 20) y w) := by
  obtain ⟨a0, c0, rfl, hr, _⟩ := id h1
  have i1 := hr.room
  have i2 := hr.most
  have HR := Lib.hid h1
  obtain ⟨b, off, rfl, _⟩ := h1.get 0 (by omega)
  have hmin : min (20 : Int) (bs.length : Int) = 20 := by omega
  have hlt : decide ((bs.length : Int) < 20) = false := decide_eq_false (by omega)
  have hle : decide ((20 : Int) ≤ (bs.length : Int)) = true := decide_eq_true (by omega)
  have hle2 : (20 : Int) ≤ (bs.length : Int) := by omega
  have hlc : (20 : Int) ≤ (c0 : Int) := by omega
  clear hr h1
  go_enter Try.func62, Try.ntmps62
  go_upto_region 2 with fail
  refine wp_region_held_drew (S := fun _ => True) (by kernel_rfl) trivial (fun _ => ?_)
  refine F_drew (F := fun W => wpAnyH _ _ _ _ _ _ _ _ W) ?_
  intro W0 hb0
  refine takeH 0 8 (v := ?vp0_1) rfl (by rfl) (by kernel_rfl) (by kernel_rfl) (by kernel_rfl) (fun _ _ _ h => h) (Or.inl ⟨by rfl, ?_⟩) (trivial) ?_
  rotate_left
  · intro wq hSq
    go_simp
    exact rfl
  try simp only [Act.put, List.setIfInBounds_toArray, List.set_cons_zero, List.set_cons_succ]
  refine takeH 1 9 (v := ?vp1_2) rfl (by rfl) (by kernel_rfl) (by kernel_rfl) (by kernel_rfl) (fun _ _ _ h => h) (Or.inl ⟨by rfl, ?_⟩) (trivial) ?_
  rotate_left
  · intro wq hSq
    go_simp
    exact rfl
  try simp only [Act.put, List.setIfInBounds_toArray, List.set_cons_zero, List.set_cons_succ]
  refine takeH 2 10 (v := ?vp2_3) rfl (by rfl) (by kernel_rfl) (by kernel_rfl) (by kernel_rfl) (fun _ _ _ h => h) (Or.inl ⟨by rfl, ?_⟩) (trivial) ?_
  rotate_left
  · intro wq hSq
    go_simp
    exact rfl
  try simp only [Act.put, List.setIfInBounds_toArray, List.set_cons_zero, List.set_cons_succ]
  refine takeH 3 11 (v := ?vp3_4) rfl (by rfl) (by kernel_rfl) (by kernel_rfl) (by kernel_rfl) (fun _ _ _ h => h) (Or.inl ⟨by rfl, ?_⟩) (trivial) ?_
  rotate_left
  · intro wq hSq
    go_simp
    exact rfl
  try simp only [Act.put, List.setIfInBounds_toArray, List.set_cons_zero, List.set_cons_succ]
  refine takeH 4 12 (v := ?vp4_5) rfl (by rfl) (by kernel_rfl) (by kernel_rfl) (by kernel_rfl) (fun _ _ _ h => h) (Or.inl ⟨by rfl, ?_⟩) (trivial) ?_
  rotate_left
  · intro wq hSq
    go_simp
    exact rfl
  try simp only [Act.put, List.setIfInBounds_toArray, List.set_cons_zero, List.set_cons_succ]
  refine takeH 5 13 (v := ?vp5_6) rfl (by rfl) (by kernel_rfl) (by kernel_rfl) (by kernel_rfl) (fun _ _ _ h => h) (Or.inl ⟨by rfl, ?_⟩) (trivial) ?_
  rotate_left
  · intro wq hSq
    go_simp
    exact rfl
  try simp only [Act.put, List.setIfInBounds_toArray, List.set_cons_zero, List.set_cons_succ]
  refine takeH 6 14 (v := ?vp6_7) rfl (by rfl) (by kernel_rfl) (by kernel_rfl) (by kernel_rfl) (fun _ _ _ h => h) (Or.inl ⟨by rfl, ?_⟩) (trivial) ?_
  rotate_left
  · intro wq hSq
    go_simp
    exact rfl
  try simp only [Act.put, List.setIfInBounds_toArray, List.set_cons_zero, List.set_cons_succ]
  refine takeH 7 2 (v := ?vp7_8) rfl (by rfl) (by kernel_rfl) (by kernel_rfl) (by kernel_rfl) (fun _ _ _ h => h) (Or.inl ⟨by rfl, ?_⟩) (trivial) ?_
  rotate_left
  · intro wq hSq
    go_simp
    exact rfl
  try simp only [Act.put, List.setIfInBounds_toArray, List.set_cons_zero, List.set_cons_succ]
  refine takeH 8 3 (v := ?vp8_9) rfl (by rfl) (by kernel_rfl) (by kernel_rfl) (by kernel_rfl) (fun _ _ _ h => h) (Or.inl ⟨by rfl, ?_⟩) (trivial) ?_
  rotate_left
  · intro wq hSq
    go_simp
    exact rfl
  try simp only [Act.put, List.setIfInBounds_toArray, List.set_cons_zero, List.set_cons_succ]
  refine wpAnyH_done (by kernel_rfl) ?_ _
  have HW := HR.out
  have HB := hb0
  clear HR hb0
  go_wp2_with fail
  all_goals go_returns
  · exact ⟨_, _, rfl, HW.recap hl rfl, HW.dropped hl rfl (by omega) (Or.inr ⟨by have := HW.room; omega, by simp⟩), HB⟩
  · exact ⟨_, _, rfl, HW.recap hl rfl, HW.dropped hl rfl rfl (Or.inl rfl), HB⟩


set_option maxRecDepth 100000 in
set_option maxHeartbeats 1600000 in
theorem split_short {v : Value} {bs : List Int} (y w : World) (h1 : IsL y .u8 v bs) (hl : bs.length < 20) : Calls Try.prog 62 #[v] w (GivesTwo (bs.take 20) (bs.drop 20) y w) := by
  have e1 : bs.take 20 = bs := List.take_of_length_le (by omega)
  have e2 : bs.drop 20 = [] := List.drop_eq_nil_of_le (by omega)
  rw [e1, e2]
  clear e1 e2
  obtain ⟨a0, c0, rfl, hr, h0⟩ := id h1
  have i1 := hr.room
  have i2 := hr.most
  have HR := Lib.hid h1
  have hmin : min (20 : Int) (bs.length : Int) = (bs.length : Int) := by omega
  have hlt : decide ((bs.length : Int) < 20) = true := decide_eq_true (by omega)
  have hle : decide ((20 : Int) ≤ (bs.length : Int)) = false := decide_eq_false (by omega)
  have hlc : (bs.length : Int) ≤ (c0 : Int) := by omega
  have hlp : (0 : Int) ≤ (bs.length : Int) := by omega
  clear hr h1
  cases a0 with
  | none =>
    obtain rfl := h0 rfl
    obtain rfl : bs = [] := List.eq_nil_of_length_eq_zero (by omega)
    clear hl i1 i2 hlc hlp hlt hle hmin
    go_enter Try.func62, Try.ntmps62
    go_upto_region 2 with fail
    refine wp_region_held_drew (S := fun _ => True) (by kernel_rfl) trivial (fun _ => ?_)
    refine F_drew (F := fun W => wpAnyH _ _ _ _ _ _ _ _ W) ?_
    intro W0 hb0
    refine takeH 0 8 (v := ?vq0_1) rfl (by rfl) (by kernel_rfl) (by kernel_rfl) (by kernel_rfl) (fun _ _ _ h => h) (Or.inl ⟨by rfl, ?_⟩) (trivial) ?_
    rotate_left
    · intro wq hSq
      go_simp
      exact rfl
    try simp only [Act.put, List.setIfInBounds_toArray, List.set_cons_zero, List.set_cons_succ]
    refine takeH 1 9 (v := ?vq1_2) rfl (by rfl) (by kernel_rfl) (by kernel_rfl) (by kernel_rfl) (fun _ _ _ h => h) (Or.inl ⟨by rfl, ?_⟩) (trivial) ?_
    rotate_left
    · intro wq hSq
      go_simp
      exact rfl
    try simp only [Act.put, List.setIfInBounds_toArray, List.set_cons_zero, List.set_cons_succ]
    refine takeH 2 10 (v := ?vq2_3) rfl (by rfl) (by kernel_rfl) (by kernel_rfl) (by kernel_rfl) (fun _ _ _ h => h) (Or.inl ⟨by rfl, ?_⟩) (trivial) ?_
    rotate_left
    · intro wq hSq
      go_simp
      exact rfl
    try simp only [Act.put, List.setIfInBounds_toArray, List.set_cons_zero, List.set_cons_succ]
    refine takeH 3 11 (v := ?vq3_4) rfl (by rfl) (by kernel_rfl) (by kernel_rfl) (by kernel_rfl) (fun _ _ _ h => h) (Or.inl ⟨by rfl, ?_⟩) (trivial) ?_
    rotate_left
    · intro wq hSq
      go_simp
      exact rfl
    try simp only [Act.put, List.setIfInBounds_toArray, List.set_cons_zero, List.set_cons_succ]
    refine takeH 4 12 (v := ?vq4_5) rfl (by rfl) (by kernel_rfl) (by kernel_rfl) (by kernel_rfl) (fun _ _ _ h => h) (Or.inl ⟨by rfl, ?_⟩) (trivial) ?_
    rotate_left
    · intro wq hSq
      go_simp
      exact rfl
    try simp only [Act.put, List.setIfInBounds_toArray, List.set_cons_zero, List.set_cons_succ]
    refine takeH 5 13 (v := ?vq5_6) rfl (by rfl) (by kernel_rfl) (by kernel_rfl) (by kernel_rfl) (fun _ _ _ h => h) (Or.inl ⟨by rfl, ?_⟩) (trivial) ?_
    rotate_left
    · intro wq hSq
      go_simp
      exact rfl
    try simp only [Act.put, List.setIfInBounds_toArray, List.set_cons_zero, List.set_cons_succ]
    refine takeH 6 14 (v := ?vq6_7) rfl (by rfl) (by kernel_rfl) (by kernel_rfl) (by kernel_rfl) (fun _ _ _ h => h) (Or.inl ⟨by rfl, ?_⟩) (trivial) ?_
    rotate_left
    · intro wq hSq
      go_simp
      exact rfl
    try simp only [Act.put, List.setIfInBounds_toArray, List.set_cons_zero, List.set_cons_succ]
    refine takeH 7 2 (v := ?vq7_8) rfl (by rfl) (by kernel_rfl) (by kernel_rfl) (by kernel_rfl) (fun _ _ _ h => h) (Or.inl ⟨by rfl, ?_⟩) (trivial) ?_
    rotate_left
    · intro wq hSq
      go_simp
      exact rfl
    try simp only [Act.put, List.setIfInBounds_toArray, List.set_cons_zero, List.set_cons_succ]
    refine takeH 8 3 (v := ?vq8_9) rfl (by rfl) (by kernel_rfl) (by kernel_rfl) (by kernel_rfl) (fun _ _ _ h => h) (Or.inl ⟨by rfl, ?_⟩) (trivial) ?_
    rotate_left
    · intro wq hSq
      go_simp
      exact rfl
    try simp only [Act.put, List.setIfInBounds_toArray, List.set_cons_zero, List.set_cons_succ]
    refine wpAnyH_done (by kernel_rfl) ?_ _
    have HB := hb0
    clear HR hb0
    go_wp2_with fail
    go_returns
    exact ⟨_, _, rfl, IsL.none, IsL.none, HB⟩

  | some ad =>
    by_cases hz : bs.length = 0
    · obtain rfl : bs = [] := List.eq_nil_of_length_eq_zero hz
      clear h0 hz hl i1 hlc hlp hlt hle hmin HR
      go_enter Try.func62, Try.ntmps62
      go_upto_region 2 with fail
      refine wp_region_held_drew (S := fun _ => True) (by kernel_rfl) trivial (fun _ => ?_)
      refine F_drew (F := fun W => wpAnyH _ _ _ _ _ _ _ _ W) ?_
      intro W0 hb0
      refine takeH 0 8 (v := ?vr0_1) rfl (by rfl) (by kernel_rfl) (by kernel_rfl) (by kernel_rfl) (fun _ _ _ h => h) (Or.inl ⟨by rfl, ?_⟩) (trivial) ?_
      rotate_left
      · intro wq hSq
        go_simp
        exact rfl
      try simp only [Act.put, List.setIfInBounds_toArray, List.set_cons_zero, List.set_cons_succ]
      refine takeH 1 9 (v := ?vr1_2) rfl (by rfl) (by kernel_rfl) (by kernel_rfl) (by kernel_rfl) (fun _ _ _ h => h) (Or.inl ⟨by rfl, ?_⟩) (trivial) ?_
      rotate_left
      · intro wq hSq
        go_simp
        exact rfl
      try simp only [Act.put, List.setIfInBounds_toArray, List.set_cons_zero, List.set_cons_succ]
      refine takeH 2 10 (v := ?vr2_3) rfl (by rfl) (by kernel_rfl) (by kernel_rfl) (by kernel_rfl) (fun _ _ _ h => h) (Or.inl ⟨by rfl, ?_⟩) (trivial) ?_
      rotate_left
      · intro wq hSq
        go_simp
        exact rfl
      try simp only [Act.put, List.setIfInBounds_toArray, List.set_cons_zero, List.set_cons_succ]
      refine takeH 3 11 (v := ?vr3_4) rfl (by rfl) (by kernel_rfl) (by kernel_rfl) (by kernel_rfl) (fun _ _ _ h => h) (Or.inl ⟨by rfl, ?_⟩) (trivial) ?_
      rotate_left
      · intro wq hSq
        go_simp
        exact rfl
      try simp only [Act.put, List.setIfInBounds_toArray, List.set_cons_zero, List.set_cons_succ]
      refine takeH 4 12 (v := ?vr4_5) rfl (by rfl) (by kernel_rfl) (by kernel_rfl) (by kernel_rfl) (fun _ _ _ h => h) (Or.inl ⟨by rfl, ?_⟩) (trivial) ?_
      rotate_left
      · intro wq hSq
        go_simp
        exact rfl
      try simp only [Act.put, List.setIfInBounds_toArray, List.set_cons_zero, List.set_cons_succ]
      refine takeH 5 13 (v := ?vr5_6) rfl (by rfl) (by kernel_rfl) (by kernel_rfl) (by kernel_rfl) (fun _ _ _ h => h) (Or.inl ⟨by rfl, ?_⟩) (trivial) ?_
      rotate_left
      · intro wq hSq
        go_simp
        exact rfl
      try simp only [Act.put, List.setIfInBounds_toArray, List.set_cons_zero, List.set_cons_succ]
      refine takeH 6 14 (v := ?vr6_7) rfl (by rfl) (by kernel_rfl) (by kernel_rfl) (by kernel_rfl) (fun _ _ _ h => h) (Or.inl ⟨by rfl, ?_⟩) (trivial) ?_
      rotate_left
      · intro wq hSq
        go_simp
        exact rfl
      try simp only [Act.put, List.setIfInBounds_toArray, List.set_cons_zero, List.set_cons_succ]
      refine takeH 7 2 (v := ?vr7_8) rfl (by rfl) (by kernel_rfl) (by kernel_rfl) (by kernel_rfl) (fun _ _ _ h => h) (Or.inl ⟨by rfl, ?_⟩) (trivial) ?_
      rotate_left
      · intro wq hSq
        go_simp
        exact rfl
      try simp only [Act.put, List.setIfInBounds_toArray, List.set_cons_zero, List.set_cons_succ]
      refine takeH 8 3 (v := ?vr8_9) rfl (by rfl) (by kernel_rfl) (by kernel_rfl) (by kernel_rfl) (fun _ _ _ h => h) (Or.inl ⟨by rfl, ?_⟩) (trivial) ?_
      rotate_left
      · intro wq hSq
        go_simp
        exact rfl
      try simp only [Act.put, List.setIfInBounds_toArray, List.set_cons_zero, List.set_cons_succ]
      refine wpAnyH_done (by kernel_rfl) ?_ _
      have HB := hb0
      clear hb0
      go_wp2_with fail
      all_goals go_returns
      all_goals exact ⟨_, _, rfl, IsL.empty (by omega) (by simp), IsL.empty (by omega) (by simp), HB⟩

    · obtain ⟨b, off, e, _⟩ := HR.out.get 0 (by omega)
      cases e
      clear h0
      go_enter Try.func62, Try.ntmps62
      go_upto_region 2 with fail
      refine wp_region_held_drew (S := fun _ => True) (by kernel_rfl) trivial (fun _ => ?_)
      refine F_drew (F := fun W => wpAnyH _ _ _ _ _ _ _ _ W) ?_
      intro W0 hb0
      refine takeH 0 8 (v := ?vs0_1) rfl (by rfl) (by kernel_rfl) (by kernel_rfl) (by kernel_rfl) (fun _ _ _ h => h) (Or.inl ⟨by rfl, ?_⟩) (trivial) ?_
      rotate_left
      · intro wq hSq
        go_simp
        exact rfl
      try simp only [Act.put, List.setIfInBounds_toArray, List.set_cons_zero, List.set_cons_succ]
      refine takeH 1 9 (v := ?vs1_2) rfl (by rfl) (by kernel_rfl) (by kernel_rfl) (by kernel_rfl) (fun _ _ _ h => h) (Or.inl ⟨by rfl, ?_⟩) (trivial) ?_
      rotate_left
      · intro wq hSq
        go_simp
        exact rfl
      try simp only [Act.put, List.setIfInBounds_toArray, List.set_cons_zero, List.set_cons_succ]
      refine takeH 2 10 (v := ?vs2_3) rfl (by rfl) (by kernel_rfl) (by kernel_rfl) (by kernel_rfl) (fun _ _ _ h => h) (Or.inl ⟨by rfl, ?_⟩) (trivial) ?_
      rotate_left
      · intro wq hSq
        go_simp
        exact rfl
      try simp only [Act.put, List.setIfInBounds_toArray, List.set_cons_zero, List.set_cons_succ]
      refine takeH 3 11 (v := ?vs3_4) rfl (by rfl) (by kernel_rfl) (by kernel_rfl) (by kernel_rfl) (fun _ _ _ h => h) (Or.inl ⟨by rfl, ?_⟩) (trivial) ?_
      rotate_left
      · intro wq hSq
        go_simp
        exact rfl
      try simp only [Act.put, List.setIfInBounds_toArray, List.set_cons_zero, List.set_cons_succ]
      refine takeH 4 12 (v := ?vs4_5) rfl (by rfl) (by kernel_rfl) (by kernel_rfl) (by kernel_rfl) (fun _ _ _ h => h) (Or.inl ⟨by rfl, ?_⟩) (trivial) ?_
      rotate_left
      · intro wq hSq
        go_simp
        exact rfl
      try simp only [Act.put, List.setIfInBounds_toArray, List.set_cons_zero, List.set_cons_succ]
      refine takeH 5 13 (v := ?vs5_6) rfl (by rfl) (by kernel_rfl) (by kernel_rfl) (by kernel_rfl) (fun _ _ _ h => h) (Or.inl ⟨by rfl, ?_⟩) (trivial) ?_
      rotate_left
      · intro wq hSq
        go_simp
        exact rfl
      try simp only [Act.put, List.setIfInBounds_toArray, List.set_cons_zero, List.set_cons_succ]
      refine takeH 6 14 (v := ?vs6_7) rfl (by rfl) (by kernel_rfl) (by kernel_rfl) (by kernel_rfl) (fun _ _ _ h => h) (Or.inl ⟨by rfl, ?_⟩) (trivial) ?_
      rotate_left
      · intro wq hSq
        go_simp
        exact rfl
      try simp only [Act.put, List.setIfInBounds_toArray, List.set_cons_zero, List.set_cons_succ]
      refine takeH 7 2 (v := ?vs7_8) rfl (by rfl) (by kernel_rfl) (by kernel_rfl) (by kernel_rfl) (fun _ _ _ h => h) (Or.inl ⟨by rfl, ?_⟩) (trivial) ?_
      rotate_left
      · intro wq hSq
        go_simp
        exact rfl
      try simp only [Act.put, List.setIfInBounds_toArray, List.set_cons_zero, List.set_cons_succ]
      refine takeH 8 3 (v := ?vs8_9) rfl (by rfl) (by kernel_rfl) (by kernel_rfl) (by kernel_rfl) (fun _ _ _ h => h) (Or.inl ⟨by rfl, ?_⟩) (trivial) ?_
      rotate_left
      · intro wq hSq
        go_simp
        exact rfl
      try simp only [Act.put, List.setIfInBounds_toArray, List.set_cons_zero, List.set_cons_succ]
      refine wpAnyH_done (by kernel_rfl) ?_ _
      have HW := HR.out
      have HB := hb0
      clear HR hb0
      go_wp2_with fail
      all_goals go_returns
      · exact ⟨_, _, rfl, (by have := HW.recap (Nat.le_refl _) rfl; rwa [List.take_length] at this), (by have := HW.dropped (n' := 0) (c' := 0) (Nat.le_refl _) (by omega) (by omega) (Or.inr ⟨by omega, Option.some_ne_none ⟨b, off, none⟩⟩); rwa [List.drop_length] at this), HB⟩
      · exact ⟨_, _, rfl, (by have := HW.recap (Nat.le_refl _) rfl; rwa [List.take_length] at this), (by have := HW.dropped (n' := 0) (c' := c0 - bs.length) (Nat.le_refl _) (by omega) (by omega) (Or.inl rfl); rwa [List.drop_length] at this), HB⟩


theorem split_is {v : Value} {bs : List Int} (y w : World) (h1 : IsL y .u8 v bs) : Calls Try.prog 62 #[v] w (GivesTwo (bs.take 20) (bs.drop 20) y w) := by
  by_cases hl : 20 ≤ bs.length
  · exact split_long y w h1 hl
  · exact split_short y w h1 (by omega)

end Go.Proofs.Ytkpdlbcmnfphmaa
