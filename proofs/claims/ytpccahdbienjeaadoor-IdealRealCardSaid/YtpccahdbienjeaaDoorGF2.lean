/-
  Package field, walked: Write.
  Package field, walked: fieldOf.
  Package field, walked: readRow.
  Package field, walked: Read, First; bytes.Clone.
  The reference of layer 7: Number, Bytes.
-/
import Derived.Test.YtpccahdbienjeaaDoorGF1
import Derived.Test.YtpccahdbienjeaaDoorGB1
import Derived.Test.YtpccahdbienjeaaDoorGS1
import Derived.OwnWalk
import Derived.Laws.Cover3

namespace Go.Proofs.YtpccahdbienjeaaDoor
open Go.RowKit

def GivesLE (xs : List Int) (c : Int) (w : World) (e : Ending) (w' : World) : Prop := ∃ v, e = .returned (.tuple #[v, .int .i64 c]) ∧ IsL w' .u8 v xs ∧ Below w.heap.size w w'
theorem info_u8' : (Tryd.prog.info? 5).map (fun i => (i.zero, i.size, i.bytes)) = some (some (.int .u8 0), 1, 1) := info_u8

set_option maxRecDepth 100000 in
set_option maxHeartbeats 1600000 in
theorem fwrite_bad {v : Value} {fs : List Fd} (w : World) (h1 : IsR LF w v fs) (he : rowE fs ≠ 0) : Calls Tryd.prog 47 #[v] w (GivesLE (rowV fs) (rowE fs) w) := by
  have C := size_is w h1
  rw [rowV_bad he] at C ⊢
  obtain ⟨c, hc⟩ : ∃ c, rowE fs = c := ⟨_, rfl⟩
  rw [hc] at C he ⊢
  have hn : (c != 0) = true := by simpa using he
  clear hc he
  go_enter Tryd.func47, Tryd.ntmps47
  go_wp2_with fail
  refine C.mono ?_
  rintro e w1 ⟨rfl, hb⟩
  go_wp2_with fail
  go_returns
  exact ⟨_, rfl, IsL.none, hb⟩

set_option maxRecDepth 100000 in
set_option maxHeartbeats 1600000 in
theorem fwrite_ok {v : Value} {fs : List Fd} (w : World) (h1 : IsR LF w v fs) (he : rowE fs = 0) : Calls Tryd.prog 47 #[v] w (GivesLE (rowV fs) (rowE fs) w) := by
  have C := size_is w h1
  rw [rowV_ok he] at C ⊢
  rw [he] at C ⊢
  obtain ⟨a0, c0, rfl, hr⟩ := id h1
  have i1 := hr.room
  have i2 := hr.most
  have hl := (rowE_zero he).1
  have hm := rowB_le fs
  have HR := Lib.hid h1
  obtain ⟨m, hmm⟩ : ∃ m, (rowB fs).length = m := ⟨_, rfl⟩
  rw [hmm] at C hm
  obtain ⟨ti, hin, hz0, hz1, hz2⟩ := info_parts info_u8'
  clear hr he h1 hmm
  go_enter Tryd.func47, Tryd.ntmps47
  go_wp2_with fail
  refine C.mono ?_
  rintro e w1 ⟨rfl, hb⟩
  have hs := hb.size
  go_upto_region 5 with (refine wpList_make_own _ rfl _ _ _ rfl w.heap.size 5 ti _ 1 Tryd.underlying89 hin hz0 hz1 _ _ _ m rfl rfl rfl (by rw [hz2]; omega) (by unfold maxLen; omega) hs ?_; intro w2 hown hgrow)
  have hB := hb.grown hgrow hs (by intro k hk; cases hk)
  clear hgrow C
  go_wp2_with fail
  go_loopw [6, 21] (fun s6 s21 wr => ∃ (k n : Nat), s21 = .int .i64 k ∧ k ≤ fs.length ∧ Hid (wr.ownsRow w.heap.size 5 1 s6 n ((rowB (fs.take k)).map (Value.int .u8))) ∧ Hid (n = (rowB (fs.take k)).length) ∧ Below w.heap.size w wr) (fun _ s21 _ => fs.length - (intOf s21).toNat)
  case atStart => exact ⟨0, 0, rfl, by omega, Lib.hid (by simpa [rowB] using hown), Lib.hid rfl, hB⟩
  case round =>
    clear hB hown
    obtain ⟨k, n, rfl, hk, HO, HN, hB⟩ := hrel
    have hs2 := hB.size
    by_cases hlt : k < fs.length
    case neg =>
      have hkk : fs.take k = fs := List.take_of_length_le (by omega)
      have HX := Lib.hid hkk
      clear hkk
      go_wp2_with fail
      go_returns
      refine ⟨_, rfl, ?_, hB⟩
      have := IsL.own HO.out HN.out
      rwa [HX.out] at this
    case pos =>
      obtain ⟨b, off, rfl, hR⟩ := HR.out.get 34 rfl (List.getElem?_eq_getElem hlt)
      have hR1 := range_below hR hB
      obtain ⟨f, hf⟩ : ∃ f, fs[k] = f := ⟨_, rfl⟩
      rw [hf] at hR1
      have hS := lenFld f
      have h1 := oneFld f
      have hz : Fd.zero.v.length = f.v.length := by rw [f.v_len, Fd.v_len]
      have C := bytesOf_is f
      have HT := Lib.hid (rowB_take_succ hlt)
      rw [hf] at HT
      have hn2 : n + f.bs.length ≤ 1280 := by
        have h2 := rowB_le (fs.take (k + 1))
        rw [HT.out, List.length_append, ← HN.out, List.length_take] at h2
        omega
      clear hR hf
      obtain ⟨V, hV⟩ : ∃ V, f.v = V := ⟨_, rfl⟩
      rw [hV] at hS h1 C hz
      rw [show LF.f f = V from hV] at hR1
      clear hV
      go_upto_region 8 with (first | refine wpList_load_range rfl _ _ rfl hR1 rfl Tryd.underlying93 rfl hS ?_ | (refine wpList_store_box (cs := V) rfl _ _ _ rfl (Box.newc (l := Fd.zero.v) rfl rfl) rfl rfl hS hz h1 ?_; intro W1 hW1))
      have hB1 : Below w.heap.size w W1 := hW1.below _ _ hs2 (by go_grown)
      have hW : Below wr.heap.size wr W1 := hW1.below _ _ (Nat.le_refl _) (by go_grown)
      have hbx := hW1.box
      have HO1 := Lib.hid (ownR_below HO.out hW)
      clear HO hW1 hW
      go_wp2_with (refine wpList_load_box rfl _ _ rfl hbx rfl Tryd.underlying93 rfl hS ?_)
      refine (C _).mono ?_
      rintro e w3 ⟨vb, rfl, hLb, hb3⟩
      have hB3 := below_thru hB1 hb3
      have HO3 := ownR_below HO1.out hb3
      have hs3 := hB3.size
      obtain ⟨a3, c3, rfl, hi3, h03⟩ := hLb
      clear HO1
      go_wp2_with (at_builtin; refine wpList_append_ints rfl _ _ 89 rfl w.heap.size 5 ti (.int .u8 0) 1 .u8 Tryd.underlying89 hin hz0 hz1 hz2 rfl _ n _ rfl HO3 a3 c3 f.bs rfl hi3 h03 (by unfold maxLen; omega) (by omega) hs3 ?_; intro v4 w4 hown4 hgrow4)
      have hB4 := hB3.grown hgrow4 hs3 (own_block HO3)
      have HO4 : Hid (w4.ownsRow w.heap.size 5 1 v4 (n + f.bs.length) ((rowB (fs.take (k + 1))).map (Value.int .u8))) := Lib.hid (by rw [HT.out, List.map_append]; exact hown4)
      have HN4 : Hid (n + f.bs.length = (rowB (fs.take (k + 1))).length) := Lib.hid (by rw [HT.out, List.length_append, ← HN.out])
      clear hown4 hgrow4 HO3 hi3 h03
      go_wp2_with fail
      go_roundw
      case rel => exact ⟨k + 1, n + f.bs.length, by go_num, by omega, HO4, HN4, hB4⟩
      case measure => simp [intOf]; omega

theorem fwrite_is {v : Value} {fs : List Fd} (w : World) (h1 : IsR LF w v fs) : Calls Tryd.prog 47 #[v] w (GivesLE (rowV fs) (rowE fs) w) := by
  by_cases h : rowE fs = 0
  · exact fwrite_ok w h1 h
  · exact fwrite_bad w h1 h

end Go.Proofs.YtpccahdbienjeaaDoor

namespace Go.Proofs.YtpccahdbienjeaaDoor
open Go.RowKit

theorem IsL.rangeOf {w : World} {k : IntKind} {a : Option Addr} {n c : Nat} {xs : List Int} (h : IsL w k (.slice a n c) xs) (h0 : 0 < xs.length) : ∃ b off, a = some ⟨b, off, Option.none⟩ ∧ w.rangeAt b off (xs.map (Value.int k)) := by
  obtain ⟨b, off, e, _⟩ := h.get 0 h0
  refine ⟨b, off, e, fun j v hv => ?_⟩
  have hj : j < xs.length := by
    rcases Nat.lt_or_ge j xs.length with q | q
    · exact q
    · rw [List.getElem?_eq_none (by simpa using q)] at hv; cases hv
  rw [nth_at' j hj] at hv
  cases hv
  obtain ⟨b', off', e', hc⟩ := h.get j hj
  rw [e] at e'
  cases e'
  exact hc
/-- The cells of a field with a kind, a number, a digest. -/
def fcell (k n : Int) (d : List Int) : List Value := .int .u8 k :: .int .u64 n :: d.map (Value.int .u8)
theorem fcell_len (k n : Int) (d : List Int) (hd : d.length = 32) : (fcell k n d).length = 34 := by simp [fcell, hd]
theorem sizeC (k n : Int) (d : List Int) (hd : d.length = 32) : (Tryd.prog.info? 93).map (·.size) = some (fcell k n d).length := by rw [sizeFld, fcell_len _ _ _ hd]
theorem oneC (k n : Int) (d : List Int) : (fcell k n d).toArray.all (·.oneCell') = true := all_oneCell_toArray (fun u hu => by
  simp [fcell] at hu
  rcases hu with rfl | rfl | ⟨y, _, rfl⟩ <;> rfl)
end Go.Proofs.YtpccahdbienjeaaDoor

namespace Go.Proofs.YtpccahdbienjeaaDoor
open Go.RowKit

theorem IsR.ofBox {α : Type} {L : Lay α} {w : World} {b n : Nat} {V : List Value} {xs : List α} (h : Box w b V) (hV : V = flatR L xs) (hn : n = xs.length) (hm : n ≤ 1000) : IsR L w (.slice (some ⟨b, 0, Option.none⟩) n n) xs := by
  subst hn hV
  refine ⟨some ⟨b, 0, Option.none⟩, xs.length, rfl, ⟨Nat.le_refl _, by omega, fun _ => ⟨b, 0, rfl, fun i x hi j v hv => ?_⟩, fun q => by cases q⟩⟩
  rw [Nat.zero_add]
  exact h.c _ _ (flatR_at hi hv)

set_option maxRecDepth 100000 in
theorem info_fld : (Tryd.prog.info? 93).map (fun i => (i.zero, i.size, i.bytes)) = some (some (.agg Fd.zero.v.toArray), 34, 48) := by kernel_rfl
end Go.Proofs.YtpccahdbienjeaaDoor

namespace Go.Proofs.YtpccahdbienjeaaDoor
open Go.RowKit

end Go.Proofs.YtpccahdbienjeaaDoor

namespace Go.Proofs.YtpccahdbienjeaaDoor
open Go.RowKit

end Go.Proofs.YtpccahdbienjeaaDoor
