/-
  Tokens: numbers and a Tag; their messages, their bytes, their cells; tokens that came in.
-/
import Derived.Test.YtlbbedknldmcpaaFldH
namespace Go.Proofs.Ytlbbedknldmcpaa
open Go.ChangeShapes Go.WideShapes Go.ChangeAt Go.RowKit Go.Joins

/-- Four numbers, as they are held. -/
structure Nums where
  t : Int
  u : Int
  e : Int
  x : Int
  ht : 0 ≤ t ∧ t ≤ 4294967295
  hu : 0 ≤ u ∧ u ≤ 4294967295
  he : 0 ≤ e ∧ e ≤ 4294967295
  hx : 0 ≤ x ∧ x ≤ 18446744073709551615
theorem Nums.ext' {k l : Nums} (h1 : k.t = l.t) (h2 : k.u = l.u) (h3 : k.e = l.e) (h4 : k.x = l.x) : k = l := by
  cases k; cases l; simp_all
/-- The message. -/
def Nums.msg (k : Nums) : List Int := be 4 k.t ++ (be 4 k.u ++ (be 4 k.e ++ be 8 k.x))
theorem Nums.msg_len (k : Nums) : k.msg.length = 20 := by unfold Nums.msg; simp [be_len]
theorem Nums.msg_byts (k : Nums) : Byts k.msg := (be_byts 4 _).append ((be_byts 4 _).append ((be_byts 4 _).append (be_byts 8 _)))
theorem Nums.msg_inj {k l : Nums} (h : k.msg = l.msg) : k = l := by
  unfold Nums.msg at h
  obtain ⟨h1, h⟩ := List.append_inj h (by rw [be_len, be_len])
  obtain ⟨h2, h⟩ := List.append_inj h (by rw [be_len, be_len])
  obtain ⟨h3, h4⟩ := List.append_inj h (by rw [be_len, be_len])
  have n4 : ∀ {a b : Int}, 0 ≤ a ∧ a ≤ 4294967295 → 0 ≤ b ∧ b ≤ 4294967295 → be 4 a = be 4 b → a = b := fun {a b} ha hb q => by
    have := congrArg num q
    rwa [num_be 4 a ha.1 (by show a < 4294967296; omega), num_be 4 b hb.1 (by show b < 4294967296; omega)] at this
  have n8 : ∀ {a b : Int}, 0 ≤ a ∧ a ≤ 18446744073709551615 → 0 ≤ b ∧ b ≤ 18446744073709551615 → be 8 a = be 8 b → a = b := fun {a b} ha hb q => by
    have := congrArg num q
    rwa [num_be 8 a ha.1 (by show a < 18446744073709551616; omega), num_be 8 b hb.1 (by show b < 18446744073709551616; omega)] at this
  exact Nums.ext' (n4 k.ht l.ht h1) (n4 k.hu l.hu h2) (n4 k.he l.he h3) (n8 k.hx l.hx h4)
/-- The numbers that 20 bytes are. -/
theorem Nums.of_bytes {bs : List Int} (hl : bs.length = 20) (hb : Byts bs) : ∃ k : Nums, k.msg = bs ∧ k.t = Go.Proofs.Ytlbbedknldmcpaa.num (bs.take 4) ∧ k.u = Go.Proofs.Ytlbbedknldmcpaa.num ((bs.take 8).drop 4) ∧ k.e = Go.Proofs.Ytlbbedknldmcpaa.num ((bs.take 12).drop 8) ∧ k.x = Go.Proofs.Ytlbbedknldmcpaa.num ((bs.take 20).drop 12) := by
  have l1 : (bs.take 4).length = 4 := by rw [List.length_take]; omega
  have l2 : ((bs.take 8).drop 4).length = 4 := by rw [List.length_drop, List.length_take]; omega
  have l3 : ((bs.take 12).drop 8).length = 4 := by rw [List.length_drop, List.length_take]; omega
  have l4 : ((bs.take 20).drop 12).length = 8 := by rw [List.length_drop, List.length_take]; omega
  have b1 := num_bound 4 _ l1 (hb.take 4)
  have b2 := num_bound 4 _ l2 ((hb.take 8).drop 4)
  have b3 := num_bound 4 _ l3 ((hb.take 12).drop 8)
  have b4 := num_bound 8 _ l4 ((hb.take 20).drop 12)
  have p4 : (256 : Int) ^ 4 = 4294967296 := by decide
  have p8 : (256 : Int) ^ 8 = 18446744073709551616 := by decide
  rw [p4] at b1 b2 b3
  rw [p8] at b4
  refine ⟨⟨num (bs.take 4), num ((bs.take 8).drop 4), num ((bs.take 12).drop 8), num ((bs.take 20).drop 12), by omega, by omega, by omega, by omega⟩, ?_, rfl, rfl, rfl, rfl⟩
  unfold Nums.msg
  show be 4 (num (bs.take 4)) ++ (be 4 (num ((bs.take 8).drop 4)) ++ (be 4 (num ((bs.take 12).drop 8)) ++ be 8 (num ((bs.take 20).drop 12)))) = bs
  rw [be_num 4 _ l1 (hb.take 4), be_num 4 _ l2 ((hb.take 8).drop 4), be_num 4 _ l3 ((hb.take 12).drop 8), be_num 8 _ l4 ((hb.take 20).drop 12)]
  have e3 : (bs.take 12).drop 8 ++ (bs.take 20).drop 12 = (bs.take 20).drop 8 := by
    conv => rhs; rw [← List.take_append_drop 4 ((bs.take 20).drop 8)]
    rw [List.drop_drop, List.take_drop, List.take_take]
    rfl
  have e2 : (bs.take 8).drop 4 ++ (bs.take 20).drop 8 = (bs.take 20).drop 4 := by
    conv => rhs; rw [← List.take_append_drop 4 ((bs.take 20).drop 4)]
    rw [List.drop_drop, List.take_drop, List.take_take]
    rfl
  have e1 : bs.take 20 = bs := List.take_of_length_le (by omega)
  rw [e3, e2, e1, List.take_append_drop]
/-- The row of a message. -/
def Nums.row (k : Nums) : List Fd := [.num 4 k.t (by decide) ⟨k.ht.1, by have := k.ht.2; omega⟩, .num 4 k.u (by decide) ⟨k.hu.1, by have := k.hu.2; omega⟩, .num 4 k.e (by decide) ⟨k.he.1, by have := k.he.2; omega⟩, .num 5 k.x (by decide) k.hx]
theorem Nums.row_b (k : Nums) : rowB k.row = k.msg := by
  show be 4 k.t ++ (be 4 k.u ++ (be 4 k.e ++ (be 8 k.x ++ []))) = _
  rw [List.append_nil]
  rfl
theorem num_ok {k n : Int} (hk : 0 ≤ k ∧ k ≤ 255) (hn : 0 ≤ n ∧ n ≤ 18446744073709551615) (hw : wid k ≠ 0) (hg : n ≤ gre k) : (Fd.num k n hk hn).ok = true := by
  show (decide (wid k ≠ 0) && decide (n ≤ gre k) && (decide (k = 6) || decide (zeroD = zeroD))) = true
  rw [decide_eq_true hw, decide_eq_true hg]
  simp
theorem Nums.row_e (k : Nums) : rowE k.row = 0 := rowE_ok (by show 4 ≤ 40; decide) (fun f hf => by
  unfold Nums.row at hf
  simp only [List.mem_cons, List.not_mem_nil, or_false] at hf
  rcases hf with rfl | rfl | rfl | rfl
  · exact num_ok _ _ (by decide) k.ht.2
  · exact num_ok _ _ (by decide) k.hu.2
  · exact num_ok _ _ (by decide) k.he.2
  · exact num_ok _ _ (by decide) k.hx.2)
theorem Nums.row_k (k : Nums) : k.row.map Fd.k = [4, 4, 4, 5] := rfl
theorem rea_of {fs : List Fd} (h : rowE fs = 0) : reaE (fs.map Fd.k) (rowB fs) = 0 ∧ reaF (fs.map Fd.k) (rowB fs) = fs := by
  obtain ⟨hl, ho⟩ := rowE_zero h
  have hk : kinE (fs.map Fd.k) = 0 := kinE_ok (by rw [List.length_map]; exact hl) (fun k hk => by
    obtain ⟨f, hf, rfl⟩ := List.mem_map.1 hk
    have := ho f hf
    unfold Fd.ok at this
    simp only [Bool.and_eq_true, decide_eq_true_eq] at this
    exact this.1.1)
  obtain ⟨e1, e2, e3⟩ := fir_some hk (show Rd (fs.map Fd.k) (rowB fs) fs [] from ⟨rfl, ho, List.append_nil _⟩)
  have e4 : reaE (fs.map Fd.k) (rowB fs) = 0 := by unfold reaE; rw [e1, e3]; rfl
  exact ⟨e4, by unfold reaF; rw [e4, if_pos rfl, e2]⟩
theorem Nums.rea (k : Nums) : reaE [4, 4, 4, 5] k.msg = 0 ∧ reaF [4, 4, 4, 5] k.msg = k.row := by
  have := rea_of k.row_e
  rwa [k.row_k, k.row_b] at this

/-- A token's cells. -/
def tcell (k : Nums) (g : List Int) : List Value := .int .u32 k.t :: .int .u32 k.u :: .int .u32 k.e :: .int .u64 k.x :: g.map (Value.int .u8)
theorem tcell_len (k : Nums) {g : List Int} (h : g.length = 32) : (tcell k g).length = 36 := by simp [tcell, h]
theorem tcell_one (k : Nums) (g : List Int) : (tcell k g).toArray.all (·.oneCell') = true := all_oneCell_toArray (fun u hu => by
  simp [tcell] at hu
  rcases hu with rfl | rfl | rfl | rfl | ⟨y, _, rfl⟩ <;> rfl)
theorem tcell_drop (k : Nums) (g : List Int) : (tcell k g).drop 4 = g.map (Value.int .u8) := rfl
theorem u8_inj : ∀ {xs ys : List Int}, xs.map (Value.int .u8) = ys.map (Value.int .u8) → xs = ys
  | [], [], _ => rfl
  | [], _ :: _, h => by cases h
  | _ :: _, [], h => by cases h
  | x :: xs, y :: ys, h => by simp at h; rw [h.1, u8_inj (xs := xs) (ys := ys) (by simpa using h.2)]
theorem tcell_inj {k l : Nums} {g h : List Int} (q : tcell k g = tcell l h) : k = l ∧ g = h := by
  unfold tcell at q
  simp only [List.cons.injEq, Value.int.injEq, true_and] at q
  exact ⟨Nums.ext' q.1 q.2.1 q.2.2.1 q.2.2.2.1, u8_inj q.2.2.2.2⟩
/-- A token whose numbers and Tag are zero. -/
def Nums.zero : Nums := ⟨0, 0, 0, 0, by decide, by decide, by decide, by decide⟩
theorem cellsU32 : Try.prog.cellsOf 22 = 1 := by kernel_rfl
theorem cellsTok : Try.prog.cellsOf 27 = 36 := by kernel_rfl
theorem sizeTok : (Try.prog.info? 27).map (·.size) = some 36 := by kernel_rfl
theorem size_tok (k : Nums) {g : List Int} (h : g.length = 32) : (Try.prog.info? 27).map (·.size) = some (tcell k g).length := by rw [sizeTok, tcell_len k h]
theorem len_tok (k l : Nums) {g h : List Int} (hg : g.length = 32) (hh : h.length = 32) : (tcell k g).length = (tcell l h).length := by rw [tcell_len k hg, tcell_len l hh]
theorem bounds_u32 {n : Int} (h : (Lit.int .u32 n).wf = true) : 0 ≤ n ∧ n ≤ 4294967295 := by
  have h1 : IntKind.u32.min ≤ n ∧ n ≤ IntKind.u32.max := by simpa [Lit.wf] using h
  have e1 : IntKind.u32.min = 0 := rfl
  have e2 : IntKind.u32.max = 4294967295 := rfl
  omega
theorem trod_struct5 {H : Type} {enc : TypeId × Value → H} {P : Program} {w : World} {base : Nat} {spare : Nat → Bool} {held : Bool} {t : TypeId} {f0 f1 f2 f3 f4 : Field} {fuel : Nat} {cs : List Value} {x : DataW H × List MemPlace} (ht : P.underlying t = some (.struct #[f0, f1, f2, f3, f4])) (h : DataW.trod enc P w base spare held fuel t cs = some x) :
    ∃ y0 y1 y2 y3 y4 n, cs.length = P.cellsOf t ∧ DataW.trod enc P w base spare held n f0.type ((cs.drop f0.offset).take (P.cellsOf f0.type)) = some y0 ∧
      DataW.trod enc P w base spare held n f1.type ((cs.drop f1.offset).take (P.cellsOf f1.type)) = some y1 ∧ DataW.trod enc P w base spare held n f2.type ((cs.drop f2.offset).take (P.cellsOf f2.type)) = some y2 ∧
      DataW.trod enc P w base spare held n f3.type ((cs.drop f3.offset).take (P.cellsOf f3.type)) = some y3 ∧ DataW.trod enc P w base spare held n f4.type ((cs.drop f4.offset).take (P.cellsOf f4.type)) = some y4 := by
  obtain ⟨xs, n, _, _, hl, hlen, hf⟩ := DataW.trod_struct ht h
  match xs, hlen with
  | [y0, y1, y2, y3, y4], _ => exact ⟨y0, y1, y2, y3, y4, n, hl, by simpa using hf 0 f0 rfl, by simpa using hf 1 f1 rfl, by simpa using hf 2 f2 rfl, by simpa using hf 3 f3 rfl, by simpa using hf 4 f4 rfl⟩
set_option maxRecDepth 100000 in
/-- A token that came in. -/
theorem open_tok {H : Type} {enc : TypeId × Value → H} {W : World} {r : Reach} {b0 : Nat} {v : Value} {d : DataW H} {p : List MemPlace}
    (hw : Value.okWide Try.prog W r b0 27 v) (h : DataW.Trod enc Try.prog W 0 (fun _ => true) true 27 v d p) :
    ∃ (k : Nums) (g : List Int), v = .agg (tcell k g).toArray ∧ g.length = 32 ∧ Byts g := by
  simp only [Value.okWide, Try.underlying27] at hw
  obtain ⟨cs, rfl, _⟩ := hw
  obtain ⟨fuel, hf⟩ := h
  obtain ⟨cl, hcl⟩ : ∃ cl : List Value, cs = cl.toArray := ⟨cs.toList, by simp⟩
  subst hcl
  have hf2 : DataW.trod enc Try.prog W 0 (fun _ => true) true fuel 27 cl = some (d, p) := by simpa [Value.cells] using hf
  obtain ⟨y0, y1, y2, y3, y4, n, hl, h0, h1, h2, h3, h4⟩ := trod_struct5 Try.underlying27 hf2
  rw [cellsTok] at hl
  clear hf hf2
  obtain ⟨a, ea, _, wa⟩ := DataW.trod_int Try.underlying22 h0
  obtain ⟨b, eb, _, wb⟩ := DataW.trod_int Try.underlying22 h1
  obtain ⟨c, ec, _, wc⟩ := DataW.trod_int Try.underlying22 h2
  obtain ⟨x, ex, _, wx⟩ := DataW.trod_int Try.underlying23 h3
  obtain ⟨g, hg, hb, eg⟩ := open_dig h4
  simp only [cellsU32, cellsU64, cellsDig] at ea eb ec ex eg
  refine ⟨⟨a, b, c, x, bounds_u32 wa, bounds_u32 wb, bounds_u32 wc, bounds_u64 wx⟩, g, ?_, hg, hb⟩
  match cl, hl with
  | c0 :: c1 :: c2 :: c3 :: cl, hl =>
    simp at ea eb ec ex eg hl
    subst ea eb ec ex
    rw [List.take_of_length_le (by omega)] at eg
    rw [eg]
    rfl

end Go.Proofs.Ytlbbedknldmcpaa
