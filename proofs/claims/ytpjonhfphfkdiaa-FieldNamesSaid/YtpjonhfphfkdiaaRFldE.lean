/-
  The reference of layer 7: Write, Size.
-/
import Derived.Test.YtpjonhfphfkdiaaRFldD
namespace Go.Proofs.Ytpjonhfphfkdiaa
open Go.RowKit

set_option maxRecDepth 100000 in
set_option maxHeartbeats 1600000 in
theorem rwrite_bad {v : Value} {fs : List Fd} (w : World) (h1 : IsR LF w v fs) (he : rowE fs ≠ 0) : Calls Try.prog 21 #[v] w (GivesLE (rowV fs) (rowE fs) w) := by
  have HL := Lib.hid h1
  have C := fun W (h : IsR LF W v fs) => rrow_is W h
  rw [rowV_bad he]
  obtain ⟨c, hc⟩ : ∃ c, rowE fs = c := ⟨_, rfl⟩
  rw [hc] at he C ⊢
  have hn : (c != 0) = true := by simpa using he
  clear hc he h1
  go_enter Try.func21, Try.ntmps21
  go_wp2_with fail
  refine (C _ HL.out).mono ?_
  rintro e w1 ⟨rfl, hb⟩
  go_wp2_with fail
  refine (C _ (HL.out.below hb)).mono ?_
  rintro e w2 ⟨rfl, hb2⟩
  go_wp2_with fail
  go_returns
  exact ⟨_, rfl, IsL.none, below_thru hb hb2⟩

set_option maxRecDepth 100000 in
set_option maxHeartbeats 1600000 in
theorem rwrite_ok {v : Value} {fs : List Fd} (w : World) (h1 : IsR LF w v fs) (he : rowE fs = 0) : Calls Try.prog 21 #[v] w (GivesLE (rowV fs) (rowE fs) w) := by
  have C := rrow_is w h1
  rw [he] at C
  rw [rowV_ok he, he]
  obtain ⟨a0, c0, rfl, hr⟩ := id h1
  have i1 := hr.room
  have i2 := hr.most
  have hl := (rowE_zero he).1
  have HR := Lib.hid h1
  obtain ⟨ti, hin, hz0, hz1, hz2⟩ := info_parts info_u8'
  clear hr he h1
  go_enter Try.func21, Try.ntmps21
  go_wp2_with fail
  refine C.mono ?_
  rintro e w1 ⟨rfl, hB⟩
  clear C
  go_wp2_with fail
  go_loopw [4, 5] (fun s6 s21 wr => ∃ (k n : Nat), s21 = .int .i64 k ∧ k ≤ fs.length ∧ Hid (wr.ownsRow w.heap.size 5 1 s6 n ((rowB (fs.take k)).map (Value.int .u8))) ∧ Hid (n = (rowB (fs.take k)).length) ∧ Below w.heap.size w wr) (fun _ s21 _ => fs.length - (intOf s21).toNat)
  case atStart => exact ⟨0, 0, rfl, by omega, Lib.hid (by simpa [rowB] using ownU_nil), Lib.hid rfl, hB⟩
  case round =>
    clear hB
    obtain ⟨k, n, rfl, hk, HO, HN, hB⟩ := hrel
    have hs2 := hB.size
    by_cases hlt : k < fs.length
    case neg =>
      have hkk : fs.take k = fs := List.take_of_length_le (by omega)
      have HX := Lib.hid hkk
      clear hkk
      go_wp2_with fail
      go_returns
      refine ⟨_, rfl, ?_, hB⟩
      have := IsL.own HO.out HN.out
      rwa [HX.out] at this
    case pos =>
      obtain ⟨b, off, rfl, hR⟩ := HR.out.get 34 rfl (List.getElem?_eq_getElem hlt)
      have hR1 := range_below hR hB
      obtain ⟨f, hf⟩ : ∃ f, fs[k] = f := ⟨_, rfl⟩
      rw [hf] at hR1
      have hS := lenFld f
      have C := rone_is f
      have HT := Lib.hid (rowB_take_succ hlt)
      rw [hf] at HT
      have hn2 : n + f.bs.length ≤ 1280 := by
        have h2 := rowB_le (fs.take (k + 1))
        rw [HT.out, List.length_append, ← HN.out, List.length_take] at h2
        omega
      have i0 : (0 : Int) ≤ (k : Int) := by omega
      have i3 : (k : Int) < (fs.length : Int) := by omega
      clear hR hf
      obtain ⟨V, hV⟩ : ∃ V, f.v = V := ⟨_, rfl⟩
      rw [hV] at hS C
      rw [show LF.f f = V from hV] at hR1
      clear hV
      go_wp2_with (refine wpList_load_range rfl _ _ rfl hR1 rfl Try.underlying30 rfl hS ?_)
      refine (C _).mono ?_
      rintro e w3 ⟨vb, rfl, hLb, hb3⟩
      have hB3 := below_thru hB hb3
      have HO3 := ownR_below HO.out hb3
      have hs3 := hB3.size
      obtain ⟨a3, c3, rfl, hi3, h03⟩ := hLb
      clear HO
      go_wp2_with (at_builtin; refine wpList_append_ints rfl _ _ 33 rfl w.heap.size 5 ti (.int .u8 0) 1 .u8 Try.underlying33 hin hz0 hz1 hz2 rfl _ n _ rfl HO3 a3 c3 f.bs rfl hi3 h03 (by unfold maxLen; omega) (by omega) hs3 ?_; intro v4 w4 hown4 hgrow4)
      have hB4 := hB3.grown hgrow4 hs3 (own_block HO3)
      have HO4 : Hid (w4.ownsRow w.heap.size 5 1 v4 (n + f.bs.length) ((rowB (fs.take (k + 1))).map (Value.int .u8))) := Lib.hid (by rw [HT.out, List.map_append]; exact hown4)
      have HN4 : Hid (n + f.bs.length = (rowB (fs.take (k + 1))).length) := Lib.hid (by rw [HT.out, List.length_append, ← HN.out])
      clear hown4 hgrow4 HO3 hi3 h03
      go_wp2_with fail
      go_roundw
      case rel => exact ⟨k + 1, n + f.bs.length, by go_num, by omega, HO4, HN4, hB4⟩
      case measure => simp [intOf]; omega

theorem rwrite_is {v : Value} {fs : List Fd} (w : World) (h1 : IsR LF w v fs) : Calls Try.prog 21 #[v] w (GivesLE (rowV fs) (rowE fs) w) := by
  by_cases h : rowE fs = 0
  · exact rwrite_ok w h1 h
  · exact rwrite_bad w h1 h

set_option maxRecDepth 100000 in
set_option maxHeartbeats 1600000 in
theorem rsize_is {v : Value} {fs : List Fd} (w : World) (h1 : IsR LF w v fs) : Calls Try.prog 20 #[v] w fun e w' => e = .returned (.tuple #[.int .i64 ((rowV fs).length : Nat), .int .i64 (rowE fs)]) ∧ Below w.heap.size w w' := by
  have C := rwrite_is w h1
  obtain ⟨bs, hbs⟩ : ∃ bs, rowV fs = bs := ⟨_, rfl⟩
  obtain ⟨c, hc⟩ : ∃ c, rowE fs = c := ⟨_, rfl⟩
  rw [hbs, hc] at C ⊢
  clear h1 hbs hc
  go_enter Try.func20, Try.ntmps20
  go_wp2_with fail
  refine C.mono ?_
  rintro e w1 ⟨v1, rfl, hl, hb⟩
  obtain ⟨a1, c1, rfl, _, _⟩ := hl
  go_wp2_with fail
  go_returns
  exact ⟨rfl, hb⟩

end Go.Proofs.Ytpjonhfphfkdiaa
