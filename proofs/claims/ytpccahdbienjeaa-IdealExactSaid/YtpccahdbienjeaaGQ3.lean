/-
  Package field, walked: Write.
  Package field, walked: fieldOf.
  Package field, walked: readRow.
  Package field, walked: Read, First; bytes.Clone.
  The reference of layer 7: Number, Bytes.
-/
import Derived.Test.YtpccahdbienjeaaGQ2
import Derived.Test.YtpccahdbienjeaaGQ1
import Derived.OwnWalk
import Derived.Laws.Cover3

namespace Go.Proofs.Ytpccahdbienjeaa
open Go.RowKit

def GivesLE (xs : List Int) (c : Int) (w : World) (e : Ending) (w' : World) : Prop := ∃ v, e = .returned (.tuple #[v, .int .i64 c]) ∧ IsL w' .u8 v xs ∧ Below w.heap.size w w'
theorem info_u8' : (Try.prog.info? 5).map (fun i => (i.zero, i.size, i.bytes)) = some (some (.int .u8 0), 1, 1) := info_u8

set_option maxRecDepth 100000 in
set_option maxHeartbeats 1600000 in
theorem fwrite_bad {v : Value} {fs : List Fd} (w : World) (h1 : IsR LF w v fs) (he : rowE fs ≠ 0) : Calls Try.prog 53 #[v] w (GivesLE (rowV fs) (rowE fs) w) := by
  have C := size_is w h1
  rw [rowV_bad he] at C ⊢
  obtain ⟨c, hc⟩ : ∃ c, rowE fs = c := ⟨_, rfl⟩
  rw [hc] at C he ⊢
  have hn : (c != 0) = true := by simpa using he
  clear hc he
  go_enter Try.func53, Try.ntmps53
  go_wp2_with fail
  refine C.mono ?_
  rintro e w1 ⟨rfl, hb⟩
  go_wp2_with fail
  go_returns
  exact ⟨_, rfl, IsL.none, hb⟩

set_option maxRecDepth 100000 in
set_option maxHeartbeats 1600000 in
theorem fwrite_ok {v : Value} {fs : List Fd} (w : World) (h1 : IsR LF w v fs) (he : rowE fs = 0) : Calls Try.prog 53 #[v] w (GivesLE (rowV fs) (rowE fs) w) := by
  have C := size_is w h1
  rw [rowV_ok he] at C ⊢
  rw [he] at C ⊢
  obtain ⟨a0, c0, rfl, hr⟩ := id h1
  have i1 := hr.room
  have i2 := hr.most
  have hl := (rowE_zero he).1
  have hm := rowB_le fs
  have HR := Lib.hid h1
  obtain ⟨m, hmm⟩ : ∃ m, (rowB fs).length = m := ⟨_, rfl⟩
  rw [hmm] at C hm
  obtain ⟨ti, hin, hz0, hz1, hz2⟩ := info_parts info_u8'
  clear hr he h1 hmm
  go_enter Try.func53, Try.ntmps53
  go_wp2_with fail
  refine C.mono ?_
  rintro e w1 ⟨rfl, hb⟩
  have hs := hb.size
  go_upto_region 5 with (refine wpList_make_own _ rfl _ _ _ rfl w.heap.size 5 ti _ 1 Try.underlying84 hin hz0 hz1 _ _ _ m rfl rfl rfl (by rw [hz2]; omega) (by unfold maxLen; omega) hs ?_; intro w2 hown hgrow)
  have hB := hb.grown hgrow hs (by intro k hk; cases hk)
  clear hgrow C
  go_wp2_with fail
  go_loopw [6, 21] (fun s6 s21 wr => ∃ (k n : Nat), s21 = .int .i64 k ∧ k ≤ fs.length ∧ Hid (wr.ownsRow w.heap.size 5 1 s6 n ((rowB (fs.take k)).map (Value.int .u8))) ∧ Hid (n = (rowB (fs.take k)).length) ∧ Below w.heap.size w wr) (fun _ s21 _ => fs.length - (intOf s21).toNat)
  case atStart => exact ⟨0, 0, rfl, by omega, Lib.hid (by simpa [rowB] using hown), Lib.hid rfl, hB⟩
  case round =>
    clear hB hown
    obtain ⟨k, n, rfl, hk, HO, HN, hB⟩ := hrel
    have hs2 := hB.size
    by_cases hlt : k < fs.length
    case neg =>
      have hkk : fs.take k = fs := List.take_of_length_le (by omega)
      have HX := Lib.hid hkk
      clear hkk
      go_wp2_with fail
      go_returns
      refine ⟨_, rfl, ?_, hB⟩
      have := IsL.own HO.out HN.out
      rwa [HX.out] at this
    case pos =>
      obtain ⟨b, off, rfl, hR⟩ := HR.out.get 34 rfl (List.getElem?_eq_getElem hlt)
      have hR1 := range_below hR hB
      obtain ⟨f, hf⟩ : ∃ f, fs[k] = f := ⟨_, rfl⟩
      rw [hf] at hR1
      have hS := lenFld f
      have h1 := oneFld f
      have hz : Fd.zero.v.length = f.v.length := by rw [f.v_len, Fd.v_len]
      have C := bytesOf_is f
      have HT := Lib.hid (rowB_take_succ hlt)
      rw [hf] at HT
      have hn2 : n + f.bs.length ≤ 1280 := by
        have h2 := rowB_le (fs.take (k + 1))
        rw [HT.out, List.length_append, ← HN.out, List.length_take] at h2
        omega
      clear hR hf
      obtain ⟨V, hV⟩ : ∃ V, f.v = V := ⟨_, rfl⟩
      rw [hV] at hS h1 C hz
      rw [show LF.f f = V from hV] at hR1
      clear hV
      go_upto_region 8 with (first | refine wpList_load_range rfl _ _ rfl hR1 rfl Try.underlying95 rfl hS ?_ | (refine wpList_store_box (cs := V) rfl _ _ _ rfl (Box.newc (l := Fd.zero.v) rfl rfl) rfl rfl hS hz h1 ?_; intro W1 hW1))
      have hB1 : Below w.heap.size w W1 := hW1.below _ _ hs2 (by go_grown)
      have hW : Below wr.heap.size wr W1 := hW1.below _ _ (Nat.le_refl _) (by go_grown)
      have hbx := hW1.box
      have HO1 := Lib.hid (ownR_below HO.out hW)
      clear HO hW1 hW
      go_wp2_with (refine wpList_load_box rfl _ _ rfl hbx rfl Try.underlying95 rfl hS ?_)
      refine (C _).mono ?_
      rintro e w3 ⟨vb, rfl, hLb, hb3⟩
      have hB3 := below_thru hB1 hb3
      have HO3 := ownR_below HO1.out hb3
      have hs3 := hB3.size
      obtain ⟨a3, c3, rfl, hi3, h03⟩ := hLb
      clear HO1
      go_wp2_with (at_builtin; refine wpList_append_ints rfl _ _ 84 rfl w.heap.size 5 ti (.int .u8 0) 1 .u8 Try.underlying84 hin hz0 hz1 hz2 rfl _ n _ rfl HO3 a3 c3 f.bs rfl hi3 h03 (by unfold maxLen; omega) (by omega) hs3 ?_; intro v4 w4 hown4 hgrow4)
      have hB4 := hB3.grown hgrow4 hs3 (own_block HO3)
      have HO4 : Hid (w4.ownsRow w.heap.size 5 1 v4 (n + f.bs.length) ((rowB (fs.take (k + 1))).map (Value.int .u8))) := Lib.hid (by rw [HT.out, List.map_append]; exact hown4)
      have HN4 : Hid (n + f.bs.length = (rowB (fs.take (k + 1))).length) := Lib.hid (by rw [HT.out, List.length_append, ← HN.out])
      clear hown4 hgrow4 HO3 hi3 h03
      go_wp2_with fail
      go_roundw
      case rel => exact ⟨k + 1, n + f.bs.length, by go_num, by omega, HO4, HN4, hB4⟩
      case measure => simp [intOf]; omega

theorem fwrite_is {v : Value} {fs : List Fd} (w : World) (h1 : IsR LF w v fs) : Calls Try.prog 53 #[v] w (GivesLE (rowV fs) (rowE fs) w) := by
  by_cases h : rowE fs = 0
  · exact fwrite_ok w h1 h
  · exact fwrite_bad w h1 h

end Go.Proofs.Ytpccahdbienjeaa

namespace Go.Proofs.Ytpccahdbienjeaa
open Go.RowKit

theorem IsL.rangeOf {w : World} {k : IntKind} {a : Option Addr} {n c : Nat} {xs : List Int} (h : IsL w k (.slice a n c) xs) (h0 : 0 < xs.length) : ∃ b off, a = some ⟨b, off, Option.none⟩ ∧ w.rangeAt b off (xs.map (Value.int k)) := by
  obtain ⟨b, off, e, _⟩ := h.get 0 h0
  refine ⟨b, off, e, fun j v hv => ?_⟩
  have hj : j < xs.length := by
    rcases Nat.lt_or_ge j xs.length with q | q
    · exact q
    · rw [List.getElem?_eq_none (by simpa using q)] at hv; cases hv
  rw [nth_at' j hj] at hv
  cases hv
  obtain ⟨b', off', e', hc⟩ := h.get j hj
  rw [e] at e'
  cases e'
  exact hc
theorem pow_le7 {n : Nat} (h : n ≤ 7) : (256 : Int) ^ n ≤ 256 ^ 7 := by
  have : n = 0 ∨ n = 1 ∨ n = 2 ∨ n = 3 ∨ n = 4 ∨ n = 5 ∨ n = 6 ∨ n = 7 := by omega
  rcases this with q | q | q | q | q | q | q | q <;> subst q <;> decide
theorem or_byte (N x : Int) (h0 : 0 ≤ N) (h1 : N < 72057594037927936) (h2 : 0 ≤ x) (h3 : x ≤ 255) : bits .or .u64 (N * 256) x = 256 * N + x := by
  obtain ⟨a, rfl⟩ : ∃ a : Nat, N = a := ⟨N.toNat, by omega⟩
  obtain ⟨c, rfl⟩ : ∃ c : Nat, x = c := ⟨x.toNat, by omega⟩
  have e : ((a : Int) * 256) = ((a * 256 : Nat) : Int) := by omega
  rw [e, u64_or_nat _ _ (by omega) (by omega)]
  have := Nat.shiftLeft_add_eq_or_of_lt (i := 8) (b := c) (by omega) a
  rw [Nat.shiftLeft_eq] at this
  have e2 : a * 2 ^ 8 = a * 256 := rfl
  rw [e2] at this
  rw [← this]
  omega
theorem num_snoc' {xs : List Int} {k : Nat} (h : k < xs.length) : num (xs.take (k + 1)) = 256 * num (xs.take k) + nth xs k := by
  rw [take_succ_nth h, num_snoc]
/-- The cells of a field with a kind, a number, a digest. -/
def fcell (k n : Int) (d : List Int) : List Value := .int .u8 k :: .int .u64 n :: d.map (Value.int .u8)
theorem fcell_len (k n : Int) (d : List Int) (hd : d.length = 32) : (fcell k n d).length = 34 := by simp [fcell, hd]
theorem sizeC (k n : Int) (d : List Int) (hd : d.length = 32) : (Try.prog.info? 95).map (·.size) = some (fcell k n d).length := by rw [sizeFld, fcell_len _ _ _ hd]
theorem oneC (k n : Int) (d : List Int) : (fcell k n d).toArray.all (·.oneCell') = true := all_oneCell_toArray (fun u hu => by
  simp [fcell] at hu
  rcases hu with rfl | rfl | ⟨y, _, rfl⟩ <;> rfl)
theorem fld_v {k : Int} {bs : List Int} (hk : 0 ≤ k ∧ k ≤ 255) (hl : bs.length = wid k) (hb : Byts bs) : (fld k bs).v = fcell k (fldN k bs) (fldD k bs) := by
  obtain ⟨h1, h2, h3⟩ := fld_ok hk hl hb
  unfold Fd.v fcell
  rw [h1, h2, h3]

end Go.Proofs.Ytpccahdbienjeaa

namespace Go.Proofs.Ytpccahdbienjeaa
open Go.RowKit

/-- A slice cut ahead. -/
theorem IsL.dropped {w : World} {k : IntKind} {b off n c m : Nat} {xs : List Int} (h : IsL w k (.slice (some ⟨b, off, Option.none⟩) n c) xs) (hm : m ≤ xs.length) {n' c' : Nat} {a' : Option Addr} (hn : n' = xs.length - m) (hc : c' = c - m) (ha : a' = some ⟨b, off + m, Option.none⟩ ∨ (xs.length - m = 0 ∧ a' ≠ Option.none)) :
    IsL w k (.slice a' n' c') (xs.drop m) := by
  obtain ⟨a0, c0, e, hi, _⟩ := h
  injection e with e1 e2 e3
  subst e2 e3 hn hc
  have hl : (xs.drop m).length = xs.length - m := List.length_drop
  have h1 := hi.room
  have h2 := hi.most
  refine ⟨a', c - m, by rw [hl], ⟨by omega, by omega, fun h0 => ?_⟩, fun q => ?_⟩
  · rcases ha with rfl | ⟨q, _⟩
    · refine ⟨b, off + m, rfl, fun i hi' => ?_⟩
      obtain ⟨b', off', e', hc'⟩ := hi.cells (by omega)
      rw [← e1] at e'
      cases e'
      rw [nth_drop, Nat.add_assoc]
      exact hc' (m + i) (by omega)
    · omega
  · rcases ha with rfl | ⟨_, q'⟩
    · cases q
    · exact absurd q q'
theorem IsL.taken {w : World} {k : IntKind} {a : Option Addr} {n c m : Nat} {xs : List Int} (h : IsL w k (.slice a n c) xs) (hm : m ≤ xs.length) : IsL w k (.slice a m c) (xs.take m) := by
  obtain ⟨a0, c0, e, hi, h0⟩ := h
  injection e with e1 e2 e3
  subst e1 e2 e3
  exact ⟨a, c, by rw [List.length_take, Nat.min_eq_left hm], hi.take m hm, h0⟩

theorem if_alt {c m n : Nat} {a' : Option Addr} {b1 o1 : Nat} (h : a' = if c = m then some ⟨b1, o1, none⟩ else some ⟨b1, o1 + m, none⟩) (hz : c = m → n - m = 0) : a' = some ⟨b1, o1 + m, none⟩ ∨ (n - m = 0 ∧ a' ≠ none) := by
  split at h
  · rename_i q
    exact Or.inr ⟨hz q, by rw [h]; simp⟩
  · exact Or.inl h
theorem ret3 {v u : Value} {c d : Int} (h : c = d) : Ending.returned (.tuple #[v, u, .int .i64 c]) = .returned (.tuple #[v, u, .int .i64 d]) := by rw [h]
theorem IsR.ofBox {α : Type} {L : Lay α} {w : World} {b n : Nat} {V : List Value} {xs : List α} (h : Box w b V) (hV : V = flatR L xs) (hn : n = xs.length) (hm : n ≤ 1000) : IsR L w (.slice (some ⟨b, 0, Option.none⟩) n n) xs := by
  subst hn hV
  refine ⟨some ⟨b, 0, Option.none⟩, xs.length, rfl, ⟨Nat.le_refl _, by omega, fun _ => ⟨b, 0, rfl, fun i x hi j v hv => ?_⟩, fun q => by cases q⟩⟩
  rw [Nat.zero_add]
  exact h.c _ _ (flatR_at hi hv)

def GivesRL (fs : List Fd) (bs : List Int) (c : Int) (w : World) (e : Ending) (w' : World) : Prop :=
  ∃ v u, e = .returned (.tuple #[v, u, .int .i64 c]) ∧ w'.ownsRow w.heap.size 95 34 v fs.length (flatR LF fs) ∧ IsL w' .u8 u bs ∧ Below w.heap.size w w'
theorem ownF_nil {w : World} {B : Nat} : w.ownsRow B 95 34 (.slice none 0 0) ([] : List Fd).length (flatR LF []) := ⟨rfl, Or.inl ⟨rfl, rfl⟩⟩
set_option maxRecDepth 100000 in
theorem info_fld : (Try.prog.info? 95).map (fun i => (i.zero, i.size, i.bytes)) = some (some (.agg Fd.zero.v.toArray), 34, 48) := by kernel_rfl
theorem nth_mem {xs : List Int} {k : Nat} (h : k < xs.length) : nth xs k ∈ xs := by
  unfold nth
  rw [List.getD_eq_getElem?_getD, List.getElem?_eq_getElem h, Option.getD_some]
  exact List.getElem_mem h
theorem split_at {xs : List Int} {k : Nat} (h : k < xs.length) : xs = xs.take k ++ nth xs k :: xs.drop (k + 1) := by
  have e := take_succ_nth h
  have := List.take_append_drop (k + 1) xs
  rw [e, List.append_assoc] at this
  exact this.symm

end Go.Proofs.Ytpccahdbienjeaa

namespace Go.Proofs.Ytpccahdbienjeaa
open Go.RowKit

def GivesRE (fs : List Fd) (c : Int) (w : World) (e : Ending) (w' : World) : Prop :=
  ∃ v, e = .returned (.tuple #[v, .int .i64 c]) ∧ w'.ownsRow w.heap.size 95 34 v fs.length (flatR LF fs) ∧ Below w.heap.size w w'
def GivesOwn (bs : List Int) (w : World) (e : Ending) (w' : World) : Prop := ∃ v, e = .returned v ∧ w'.ownsRow w.heap.size 5 1 v bs.length (bs.map (Value.int .u8)) ∧ Below w.heap.size w w'
def GivesRO (fs : List Fd) (bs : List Int) (c : Int) (w : World) (e : Ending) (w' : World) : Prop :=
  ∃ v u, e = .returned (.tuple #[v, u, .int .i64 c]) ∧ w'.ownsRow w.heap.size 95 34 v fs.length (flatR LF fs) ∧ w'.ownsRow w.heap.size 5 1 u bs.length (bs.map (Value.int .u8)) ∧ Below w.heap.size w w'
theorem ownU_nil {w : World} {B : Nat} : w.ownsRow B 5 1 (.slice none 0 0) ([] : List Int).length (([] : List Int).map (Value.int .u8)) := ⟨rfl, Or.inl ⟨rfl, rfl⟩⟩
theorem nil_eq (W : World) : (binOp .eql 84 (.slice none 0 0) (.slice none 0 0)).run Try.prog W = .ok (.bool true) W := by kernel_rfl
theorem some_eq (ad : Addr) (n c : Nat) (W : World) : (binOp .eql 84 (.slice (some ad) n c) (.slice none 0 0)).run Try.prog W = .ok (.bool false) W := by kernel_rfl
theorem ret2v {v : Value} {c d : Int} (h : c = d) : Ending.returned (.tuple #[v, .int .i64 c]) = .returned (.tuple #[v, .int .i64 d]) := by rw [h]

theorem firE_no {ks bs : List Int} (h : firE ks bs ≠ 0) : firF ks bs = [] ∧ firR ks bs = [] := by
  rcases kinE_cases ks with q | q | q
  · cases hr : rd ks bs with
    | none => exact (fir_none q hr).2
    | some p => exact absurd (by unfold firE; rw [if_pos q, hr]) h
  · exact (fir_bad q (by decide)).2
  · exact (fir_bad q (by decide)).2

end Go.Proofs.Ytpccahdbienjeaa

namespace Go.Proofs.Ytpccahdbienjeaa
open Go.RowKit

theorem ret_u {a b : Int} (h : a = b) : Ending.returned (.int .u64 a) = .returned (.int .u64 b) := by rw [h]

/-- A list of one byte just built. -/
theorem IsL.ints {w : World} {k : IntKind} {a : Option Addr} {n c : Nat} {xs : List Int} (h : IsL w k (.slice a n c) xs) : Ints w k a c xs := by
  obtain ⟨a', c', e, h1, _⟩ := h
  injection e with e1 e2 e3
  subst e1 e2 e3
  exact h1
theorem be_take_succ (w : Nat) (n : Int) (j i : Nat) (h : w = j + (i + 1)) (h0 : 0 ≤ n) : (be w n).take (j + 1) = (be w n).take j ++ [n / 2 ^ (8 * i) % 256] := by
  rw [take_succ_nth (by rw [be_len]; omega), pow_byte, ← be_nth w n i h0 (by omega)]
  congr 3
  omega

end Go.Proofs.Ytpccahdbienjeaa
