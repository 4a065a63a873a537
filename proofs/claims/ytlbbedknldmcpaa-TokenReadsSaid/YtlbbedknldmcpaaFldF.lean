/-
  Package field, walked: fieldOf.
-/
import Derived.Test.YtlbbedknldmcpaaFldE
import Derived.Test.YtlbbedknldmcpaaPart
import Derived.Laws.Cover3
namespace Go.Proofs.Ytlbbedknldmcpaa
open Go.RowKit

theorem IsL.rangeOf {w : World} {k : IntKind} {a : Option Addr} {n c : Nat} {xs : List Int} (h : IsL w k (.slice a n c) xs) (h0 : 0 < xs.length) : ∃ b off, a = some ⟨b, off, Option.none⟩ ∧ w.rangeAt b off (xs.map (Value.int k)) := by
  obtain ⟨b, off, e, _⟩ := h.get 0 h0
  refine ⟨b, off, e, fun j v hv => ?_⟩
  have hj : j < xs.length := by
    rcases Nat.lt_or_ge j xs.length with q | q
    · exact q
    · rw [List.getElem?_eq_none (by simpa using q)] at hv; cases hv
  rw [nth_at' j hj] at hv
  cases hv
  obtain ⟨b', off', e', hc⟩ := h.get j hj
  rw [e] at e'
  cases e'
  exact hc
theorem pow_le7 {n : Nat} (h : n ≤ 7) : (256 : Int) ^ n ≤ 256 ^ 7 := by
  have : n = 0 ∨ n = 1 ∨ n = 2 ∨ n = 3 ∨ n = 4 ∨ n = 5 ∨ n = 6 ∨ n = 7 := by omega
  rcases this with q | q | q | q | q | q | q | q <;> subst q <;> decide
theorem or_byte (N x : Int) (h0 : 0 ≤ N) (h1 : N < 72057594037927936) (h2 : 0 ≤ x) (h3 : x ≤ 255) : bits .or .u64 (N * 256) x = 256 * N + x := by
  obtain ⟨a, rfl⟩ : ∃ a : Nat, N = a := ⟨N.toNat, by omega⟩
  obtain ⟨c, rfl⟩ : ∃ c : Nat, x = c := ⟨x.toNat, by omega⟩
  have e : ((a : Int) * 256) = ((a * 256 : Nat) : Int) := by omega
  rw [e, u64_or_nat _ _ (by omega) (by omega)]
  have := Nat.shiftLeft_add_eq_or_of_lt (i := 8) (b := c) (by omega) a
  rw [Nat.shiftLeft_eq] at this
  have e2 : a * 2 ^ 8 = a * 256 := rfl
  rw [e2] at this
  rw [← this]
  omega
theorem num_snoc' {xs : List Int} {k : Nat} (h : k < xs.length) : num (xs.take (k + 1)) = 256 * num (xs.take k) + nth xs k := by
  rw [take_succ_nth h, num_snoc]
/-- The cells of a field with a kind, a number, a digest. -/
def fcell (k n : Int) (d : List Int) : List Value := .int .u8 k :: .int .u64 n :: d.map (Value.int .u8)
theorem fcell_len (k n : Int) (d : List Int) (hd : d.length = 32) : (fcell k n d).length = 34 := by simp [fcell, hd]
theorem sizeC (k n : Int) (d : List Int) (hd : d.length = 32) : (Try.prog.info? 44).map (·.size) = some (fcell k n d).length := by rw [sizeFld, fcell_len _ _ _ hd]
theorem oneC (k n : Int) (d : List Int) : (fcell k n d).toArray.all (·.oneCell') = true := all_oneCell_toArray (fun u hu => by
  simp [fcell] at hu
  rcases hu with rfl | rfl | ⟨y, _, rfl⟩ <;> rfl)
theorem fld_v {k : Int} {bs : List Int} (hk : 0 ≤ k ∧ k ≤ 255) (hl : bs.length = wid k) (hb : Byts bs) : (fld k bs).v = fcell k (fldN k bs) (fldD k bs) := by
  obtain ⟨h1, h2, h3⟩ := fld_ok hk hl hb
  unfold Fd.v fcell
  rw [h1, h2, h3]

set_option maxRecDepth 100000 in
set_option maxHeartbeats 1600000 in
theorem fieldOf_dig {v : Value} {bs : List Int} (w : World) (h1 : IsL w .u8 v bs) (hl : bs.length = 32) : Calls Try.prog 23 #[.int .u8 6, v] w fun e w' => e = .returned (.agg (fcell 6 0 bs).toArray) ∧ Below w.heap.size w w' := by
  obtain ⟨a0, c0, rfl, hr, _⟩ := id h1
  have i1 := hr.room
  have i2 := hr.most
  obtain ⟨b, off, rfl, hR⟩ := h1.rangeOf (by omega)
  have hS : (Try.prog.info? 25).map (·.size) = some (bs.map (Value.int .u8)).length := by rw [sizeDig, List.length_map, hl]
  clear h1 hr
  rw [hl] at i1 ⊢
  go_enter Try.func23, Try.ntmps23
  go_upto_region 2 with (refine wpList_store_box (cs := fcell 6 0 zeroD) rfl _ _ _ rfl (Box.newc (l := Fd.zero.v) rfl (by simp)) rfl rfl (sizeC _ _ _ rfl) rfl (oneC _ _ _) ?_; intro w1 hW1)
  have hB1 : Below w.heap.size w w1 := hW1.below _ _ (by omega) (by go_grown)
  have hX1 := hW1.box
  have hY1 : Box w1 w.heap.size Fd.zero.v := hW1.past _ _ (by omega) (Box.alloc (Box.newc rfl rfl) _)
  have hs1 := hB1.size
  have hR1 := range_below hR hB1
  have z1 := hX1.lt
  have z2 := hY1.lt
  have hA : ∀ W, (Instr.arrayAt 25 (.slice (some ⟨b, off, none⟩) 32 c0)).run Try.prog W = .ok (.pointer (some ⟨b, off, none⟩)) W := fun W => run_arrayAt W 25 _ 32 _ 32 c0 Try.underlying25 (Nat.le_refl _)
  clear hW1 hR
  go_upto_region 4 with (first | refine wpList_load_range rfl _ _ rfl hR1 rfl Try.underlying25 rfl hS ?_ | (refine wpList_store_part (cs := bs.map (Value.int .u8)) (ws := fcell 6 0 bs) rfl _ _ _ rfl hX1 rfl rfl hS (by simp [fcell, zeroD, hl]) (by simp [fcell, zeroD, hl]) (oneCell_ints _) ?_; intro w2 hW2))
  have hB2 : Below w.heap.size w w2 := hW2.below _ _ (by omega) hB1
  have hX2 := hW2.box
  have hY2 : Box w2 w.heap.size Fd.zero.v := hW2.past _ _ (by omega) hY1
  clear hW2 hX1 hY1 hR1 hB1
  go_wp2_with (first | refine wpList_load_box rfl _ _ rfl hX2 rfl Try.underlying44 rfl (sizeC _ _ _ hl) ?_ | (refine wpList_store_box (cs := fcell 6 0 bs) rfl _ _ _ rfl hY2 rfl rfl (sizeC _ _ _ hl) (by rw [fcell_len _ _ _ hl]; rfl) (oneC _ _ _) ?_; intro w3 hW3))
  refine bodyPost_ret (results_box (b := w.heap.size) (cs := fcell 6 0 bs) Try.results23 hW3.box rfl Try.underlying44 rfl (sizeC _ _ _ hl)) rfl ⟨rfl, hW3.below _ _ (by omega) hB2⟩

set_option maxRecDepth 100000 in
set_option maxHeartbeats 1600000 in
theorem fieldOf_num {v : Value} {k : Int} {bs : List Int} (w : World) (h1 : IsL w .u8 v bs) (h6 : k ≠ 6) (hl : bs.length ≤ 8) (hby : Byts bs) : Calls Try.prog 23 #[.int .u8 k, v] w fun e w' => e = .returned (.agg (fcell k (num bs) zeroD).toArray) ∧ Below w.heap.size w w' := by
  obtain ⟨a0, c0, rfl, hr, _⟩ := id h1
  have i1 := hr.room
  have i2 := hr.most
  have HR := Lib.hid h1
  have HB := Lib.hid hby
  have hk6 : (k == 6) = false := by simpa using h6
  clear h1 hr hby h6
  go_enter Try.func23, Try.ntmps23
  go_upto_region 2 with (refine wpList_store_box (cs := fcell k 0 zeroD) rfl _ _ _ rfl (Box.newc (l := Fd.zero.v) rfl (by simp)) rfl rfl (sizeC _ _ _ rfl) rfl (oneC _ _ _) ?_; intro w1 hW1)
  have hB1 : Below w.heap.size w w1 := hW1.below _ _ (by omega) (by go_grown)
  have hX1 := hW1.box
  have hY1 : Box w1 w.heap.size Fd.zero.v := hW1.past _ _ (by omega) (Box.alloc (Box.newc rfl rfl) _)
  have hs1 := hB1.size
  clear hW1
  go_wp2_with fail
  go_loopw [19] (fun i wr => ∃ j : Nat, j ≤ bs.length ∧ i = .int .i64 j ∧ Box wr (w.heap.size + 1) (fcell k (num (bs.take j)) zeroD) ∧ Box wr w.heap.size Fd.zero.v ∧ Below w.heap.size w wr) (fun i _ => bs.length - (intOf i).toNat)
  case atStart => exact ⟨0, by omega, rfl, hX1, hY1, hB1⟩
  case round =>
    clear hX1 hY1 hB1
    obtain ⟨j, hj, rfl, hX, hY, hB⟩ := hrel
    have z1 := hX.lt
    have z2 := hY.lt
    by_cases hlt : j < bs.length
    · obtain ⟨b, off, rfl, hc⟩ := HR.out.get j hlt
      have c1 := cell_below hB hc
      obtain ⟨x, hx⟩ : ∃ x, nth bs j = x := ⟨_, rfl⟩
      obtain ⟨N, hN⟩ : ∃ N, num (bs.take j) = N := ⟨_, rfl⟩
      have hN2 : num (bs.take (j + 1)) = 256 * N + x := by rw [num_snoc' hlt, hN, hx]
      have hxb : 0 ≤ x ∧ x ≤ 255 := by rw [← hx]; exact nth_all HB.out j hlt
      have hNb : 0 ≤ N ∧ N < 72057594037927936 := by
        have h3 := num_bound _ (bs.take j) rfl (HB.out.take j)
        have h4 : (256 : Int) ^ (bs.take j).length ≤ 256 ^ 7 := pow_le7 (by rw [List.length_take]; omega)
        rw [hN] at h3
        have h5 : (256 : Int) ^ 7 = 72057594037927936 := by decide
        omega
      have hx0 := hxb.1
      have hx1 := hxb.2
      have hN0 := hNb.1
      have hN1 := hNb.2
      rw [hx] at c1
      rw [hN] at hX
      have d1 := hX.c 1 (.int .u64 N) rfl
      have f1 := hX.f 1 (.int .u64 N) rfl
      have HN := Lib.hid hN2
      have HE := Lib.hid (or_byte N x hN0 hN1 hx0 hx1)
      clear hc hN hN2 hx hxb hNb
      go_wp2_with fail
      go_roundw
      case rel =>
        refine ⟨j + 1, by omega, by go_num, ?_, hY.other (by show w.heap.size + 1 ≠ w.heap.size; omega) _, hB.setCell (by show w.heap.size ≤ w.heap.size + 1; omega) _⟩
        rw [HN.out, ← HE.out]
        exact hX.set 1 _
      case measure => simp [intOf]; omega
    · obtain rfl : j = bs.length := by omega
      rw [List.take_length] at hX
      go_wp2_with (first | refine wpList_load_box rfl _ _ rfl hX rfl Try.underlying44 rfl (sizeC _ _ _ rfl) ?_ | (refine wpList_store_box (cs := fcell k (num bs) zeroD) rfl _ _ _ rfl hY rfl rfl (sizeC _ _ _ rfl) rfl (oneC _ _ _) ?_; intro w3 hW3))
      refine bodyPost_ret (results_box (b := w.heap.size) (cs := fcell k (num bs) zeroD) Try.results23 hW3.box rfl Try.underlying44 rfl (sizeC _ _ _ rfl)) rfl ⟨rfl, hW3.below _ _ (by omega) hB⟩

theorem fieldOf_is {v : Value} {k : Int} {bs : List Int} (w : World) (h1 : IsL w .u8 v bs) (hk : 0 ≤ k ∧ k ≤ 255) (hl : bs.length = wid k) (hby : Byts bs) : Calls Try.prog 23 #[.int .u8 k, v] w fun e w' => e = .returned (.agg (fld k bs).v.toArray) ∧ Below w.heap.size w w' := by
  rw [fld_v hk hl hby]
  by_cases h6 : k = 6
  · subst h6
    exact fieldOf_dig w h1 hl
  · have e1 : fldN k bs = num bs := if_neg h6
    have e2 : fldD k bs = zeroD := if_neg h6
    rw [e1, e2]
    refine fieldOf_num w h1 h6 ?_ hby
    rw [hl]
    have : k = 6 ∨ wid k ≤ 8 := by unfold wid; (repeat' split) <;> simp_all
    omega

end Go.Proofs.Ytlbbedknldmcpaa
