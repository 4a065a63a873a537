/-
  Package frame, walked: Before returns a row of its own.
-/
import Derived.Test.YtkpdlbcmnfphmaaFmH
namespace Go.Proofs.Ytkpdlbcmnfphmaa
open Go.RowKit

set_option maxRecDepth 100000 in
set_option maxHeartbeats 1600000 in
theorem fwrite_own {v : Value} {fs : List Fd} (w : World) (h1 : IsR LF w v fs) (he : rowE fs = 0) : Calls Try.prog 38 #[v] w (GivesOE (rowB fs) 0 w) := by
  have C := size_is w h1
  rw [rowV_ok he] at C
  rw [he] at C
  obtain ⟨a0, c0, rfl, hr⟩ := id h1
  have i1 := hr.room
  have i2 := hr.most
  have hl := (rowE_zero he).1
  have hm := rowB_le fs
  have HR := Lib.hid h1
  obtain ⟨m, hmm⟩ : ∃ m, (rowB fs).length = m := ⟨_, rfl⟩
  rw [hmm] at C hm
  obtain ⟨ti, hin, hz0, hz1, hz2⟩ := info_parts info_u8'
  clear hr he h1 hmm
  go_enter Try.func38, Try.ntmps38
  go_wp2_with fail
  refine C.mono ?_
  rintro e w1 ⟨rfl, hb⟩
  have hs := hb.size
  go_upto_region 5 with (refine wpList_make_own _ rfl _ _ _ rfl w.heap.size 5 ti _ 1 Try.underlying33 hin hz0 hz1 _ _ _ m rfl rfl rfl (by rw [hz2]; omega) (by unfold maxLen; omega) hs ?_; intro w2 hown hgrow)
  have hB := hb.grown hgrow hs (by intro k hk; cases hk)
  clear hgrow C
  go_wp2_with fail
  go_loopw [6, 21] (fun s6 s21 wr => ∃ (k n : Nat), s21 = .int .i64 k ∧ k ≤ fs.length ∧ Hid (wr.ownsRow w.heap.size 5 1 s6 n ((rowB (fs.take k)).map (Value.int .u8))) ∧ Hid (n = (rowB (fs.take k)).length) ∧ Below w.heap.size w wr) (fun _ s21 _ => fs.length - (intOf s21).toNat)
  case atStart => exact ⟨0, 0, rfl, by omega, Lib.hid (by simpa [rowB] using hown), Lib.hid rfl, hB⟩
  case round =>
    clear hB hown
    obtain ⟨k, n, rfl, hk, HO, HN, hB⟩ := hrel
    have hs2 := hB.size
    by_cases hlt : k < fs.length
    case neg =>
      have hkk : fs.take k = fs := List.take_of_length_le (by omega)
      have HX := Lib.hid hkk
      clear hkk
      go_wp2_with fail
      go_returns
      refine ⟨_, rfl, ?_, hB⟩
      have h2 := HO.out
      rw [HN.out, HX.out] at h2
      exact h2
    case pos =>
      obtain ⟨b, off, rfl, hR⟩ := HR.out.get 34 rfl (List.getElem?_eq_getElem hlt)
      have hR1 := range_below hR hB
      obtain ⟨f, hf⟩ : ∃ f, fs[k] = f := ⟨_, rfl⟩
      rw [hf] at hR1
      have hS := lenFld f
      have h1 := oneFld f
      have hz : Fd.zero.v.length = f.v.length := by rw [f.v_len, Fd.v_len]
      have C := bytesOf_is f
      have HT := Lib.hid (rowB_take_succ hlt)
      rw [hf] at HT
      have hn2 : n + f.bs.length ≤ 1280 := by
        have h2 := rowB_le (fs.take (k + 1))
        rw [HT.out, List.length_append, ← HN.out, List.length_take] at h2
        omega
      clear hR hf
      obtain ⟨V, hV⟩ : ∃ V, f.v = V := ⟨_, rfl⟩
      rw [hV] at hS h1 C hz
      rw [show LF.f f = V from hV] at hR1
      clear hV
      go_upto_region 8 with (first | refine wpList_load_range rfl _ _ rfl hR1 rfl Try.underlying83 rfl hS ?_ | (refine wpList_store_box (cs := V) rfl _ _ _ rfl (Box.newc (l := Fd.zero.v) rfl rfl) rfl rfl hS hz h1 ?_; intro W1 hW1))
      have hB1 : Below w.heap.size w W1 := hW1.below _ _ hs2 (by go_grown)
      have hW : Below wr.heap.size wr W1 := hW1.below _ _ (Nat.le_refl _) (by go_grown)
      have hbx := hW1.box
      have HO1 := Lib.hid (ownR_below HO.out hW)
      clear HO hW1 hW
      go_wp2_with (refine wpList_load_box rfl _ _ rfl hbx rfl Try.underlying83 rfl hS ?_)
      refine (C _).mono ?_
      rintro e w3 ⟨vb, rfl, hLb, hb3⟩
      have hB3 := below_thru hB1 hb3
      have HO3 := ownR_below HO1.out hb3
      have hs3 := hB3.size
      obtain ⟨a3, c3, rfl, hi3, h03⟩ := hLb
      clear HO1
      go_wp2_with (at_builtin; refine wpList_append_ints rfl _ _ 33 rfl w.heap.size 5 ti (.int .u8 0) 1 .u8 Try.underlying33 hin hz0 hz1 hz2 rfl _ n _ rfl HO3 a3 c3 f.bs rfl hi3 h03 (by unfold maxLen; omega) (by omega) hs3 ?_; intro v4 w4 hown4 hgrow4)
      have hB4 := hB3.grown hgrow4 hs3 (own_block HO3)
      have HO4 : Hid (w4.ownsRow w.heap.size 5 1 v4 (n + f.bs.length) ((rowB (fs.take (k + 1))).map (Value.int .u8))) := Lib.hid (by rw [HT.out, List.map_append]; exact hown4)
      have HN4 : Hid (n + f.bs.length = (rowB (fs.take (k + 1))).length) := Lib.hid (by rw [HT.out, List.length_append, ← HN.out])
      clear hown4 hgrow4 HO3 hi3 h03
      go_wp2_with fail
      go_roundw
      case rel => exact ⟨k + 1, n + f.bs.length, by go_num, by omega, HO4, HN4, hB4⟩
      case measure => simp [intOf]; omega


set_option maxRecDepth 100000 in
set_option maxHeartbeats 1600000 in
theorem msg_own (c : Cmd) (hw : c.wd) (w : World) : Calls Try.prog 27 #[.agg (ccell c).toArray] w (GivesOwn c.msg w) := by
  have SV := Lib.hid (size_cmd c)
  have MR := fun W => mrow_is c hw W
  have WR := fun (W : World) (v : Value) (h : IsR LF W v (crow c)) => fwrite_own W h (crow_e hw)
  rw [crow_b hw] at WR
  obtain ⟨V, hV⟩ : ∃ V, ccell c = V := ⟨_, rfl⟩
  rw [hV] at SV MR ⊢
  clear hV hw
  go_enter Try.func27, Try.ntmps27
  go_upto_region 1 with fail
  refine F_gen (F := fun W => Code.wp _ _ _ _ W) (J := fun W => Box W (w.heap.size) (V) ∧ Below w.heap.size w W) (And.intro (Box.newc rfl rfl) (by go_grown)) ?_
  intro w0 ⟨e_c, hB0⟩
  have hs0 := hB0.size
  have x_c0 := e_c; clear e_c
  go_wp2_with (refine wpList_load_box9 rfl _ _ rfl x_c0 rfl Try.underlying31 rfl SV.out ?_)
  refine (MR _).mono ?_
  rintro e w1 ⟨vr, rfl, hr, hb1⟩
  have hB1 := below_thru hB0 hb1
  go_wp2_with fail
  refine (WR _ _ hr).mono ?_
  rintro e w2 ⟨vm, rfl, hm, hb2⟩
  have hs1 := hB1.size
  have hB2 := below_thru hB1 hb2
  clear hr
  go_wp2_with fail
  go_returns
  exact ⟨vm, rfl, ownR_base hm hs1, hB2⟩


set_option maxRecDepth 100000 in
set_option maxHeartbeats 1600000 in
theorem bef_own (c : Cmd) (h : c.Ok) (w : World) : Calls Try.prog 13 #[.agg (ccell c).toArray] w (GivesOE c.msg 0 w) := by
  have SV := Lib.hid (size_cmd c)
  have IC := fun W => isc_is c (q := true) (Lib.hid ⟨fun _ => rfl, fun _ => h⟩) W
  have MR := fun W => msg_own c (Cmd.ok_wd h) W
  obtain ⟨V, hV⟩ : ∃ V, ccell c = V := ⟨_, rfl⟩
  rw [hV] at SV MR IC ⊢
  clear hV h
  go_enter Try.func13, Try.ntmps13
  go_upto_region 1 with fail
  refine F_gen (F := fun W => Code.wp _ _ _ _ W) (J := fun W => Box W (w.heap.size) (V) ∧ Below w.heap.size w W) (And.intro (Box.newc rfl rfl) (by go_grown)) ?_
  intro w0 ⟨e_c, hB0⟩
  have hs0 := hB0.size
  have x_c0 := e_c; clear e_c
  go_wp2_with (refine wpList_load_box9 rfl _ _ rfl x_c0 rfl Try.underlying31 rfl SV.out ?_)
  refine (IC _).mono ?_
  rintro e w1 ⟨rfl, hb⟩
  clear IC
  have hB1 : Below w.heap.size w w1 := below_thru hB0 hb
  have hs1 := hB1.size
  have x_c1 : Box w1 (w.heap.size) (V) := Box.below x_c0 hb
  clear hB0 hs0 x_c0
  clear hb
  go_wp2_with (refine wpList_load_box9 rfl _ _ rfl x_c1 rfl Try.underlying31 rfl SV.out ?_)
  refine (MR _).mono ?_
  rintro e w2 ⟨vr, rfl, hr, hb2⟩
  have hB2 := below_thru hB1 hb2
  go_wp2_with fail
  go_returns
  exact ⟨vr, rfl, ownR_base hr hs1, hB2⟩


end Go.Proofs.Ytkpdlbcmnfphmaa
