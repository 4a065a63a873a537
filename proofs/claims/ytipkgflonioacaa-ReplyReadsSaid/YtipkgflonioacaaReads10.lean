/-
  ReplyReads, walked.
-/
import Derived.Test.YtipkgflonioacaaRRpC
namespace Go.Proofs.Ytipkgflonioacaa
open Go.RowKit

set_option maxRecDepth 100000 in
set_option maxHeartbeats 6400000 in
theorem reads10_is {v : Value} {bs : List Int} (w : World) (h1 : IsL w .u8 v bs) (hb : Byts bs) : Calls Try.prog 5 #[v] w fun e w' => e = .returned (.bool true) ∧ Below w.heap.size w w' := by
  obtain ⟨a0, c0, rfl, hr, h0⟩ := id h1
  have i1 := hr.room
  have i2 := hr.most
  by_cases hl : 200 < bs.length
  · have d1 : decide ((200 : Int) < (bs.length : Int)) = true := decide_eq_true (by omega)
    clear hl hb h1 hr h0
    go_enter Try.func5, Try.ntmps5
    go_wp2_with fail
    go_returns
    exact ⟨rfl, Below.refl _ _⟩
  have d1 : decide ((200 : Int) < (bs.length : Int)) = false := decide_eq_false (by omega)
  obtain ⟨ti, hin, hz0, hz1, hz2⟩ := info_parts info_u8'
  obtain ⟨G, q, _, P1, P2⟩ := preads_both bs hb
  unfold PReads at P1 P2
  have EQ := fun W => eqp_t (rfl : G = G) W
  have SG := Lib.hid (size_rep G); have LG := Lib.hid (len_rep Rep.zero G); have OG := Lib.hid (one_rep G)
  obtain ⟨V, hV⟩ : ∃ V, G.v = V := ⟨_, rfl⟩
  rw [hV] at P1 P2 EQ SG LG OG
  have HV := Lib.hid h1
  have HO := World.ownsRow_lit (base := w.heap.size) (size := 1) (e := 5) w #[] 0 (Nat.le_refl _) (by unfold maxLen; omega) rfl
  clear hV h1 hb
  go_enter Try.func5, Try.ntmps5
  go_upto_region 4 with (at_builtin; refine wpList_append_ints rfl _ _ 31 rfl w.heap.size 5 ti _ 1 .u8 Try.underlying31 hin hz0 hz1 hz2 rfl _ 0 _ rfl HO a0 c0 bs rfl (hr.alloc _) h0 (by unfold maxLen; omega) (by omega) (by simp) ?_; intro vo w1 hown hgrow)
  have hB1 : Below w.heap.size w w1 := ((Below.refl _ _).alloc (Nat.le_refl _) _).grown hgrow (by simp) (own_block HO)
  have HO1 : Hid (IsL w1 .u8 vo bs) := Lib.hid (by
    have h9 : w1.ownsRow w.heap.size 5 1 vo bs.length (bs.map (Value.int .u8)) := by simpa using hown
    exact IsL.own h9 rfl)
  clear hown hgrow HO hr h0
  have hs1 := hB1.size
  have J_o1 := HO1; clear HO1
  have J_b1 : Hid (IsL w1 .u8 (.slice a0 bs.length c0) bs) := Lib.hid (HV.out.below hB1)
  go_wp2_with fail
  refine (P1 _ _ J_o1.out).mono ?_
  rintro e w2 ⟨rfl, hb⟩
  have hB2 : Below w.heap.size w w2 := below_thru hB1 hb
  have hs2 := hB2.size
  have J_o2 : Hid (IsL w2 .u8 (vo) bs) := Lib.hid (IsL.below J_o1.out hb)
  have J_b2 : Hid (IsL w2 .u8 (.slice a0 bs.length c0) bs) := Lib.hid (IsL.below J_b1.out hb)
  clear hB1 hs1 J_o1 J_b1
  clear hb
  have d_f_0 := hs2
  go_upto_region 5 with (refine wpList_store_box (cs := V) rfl _ _ _ rfl (Box.newc (l := Rep.zero.v) rfl rfl) rfl rfl SG.out LG.out OG.out ?_; intro W2_0 hW2_0)
  have hN : Below w2.heap.size w2 W2_0 := (hW2_0.below _ _ (by omega) ((Below.refl _ w2).alloc (Nat.le_refl _) _))
  have x_f3 : Box W2_0 (w2.heap.size) (V) := hW2_0.box
  have hB3 : Below w.heap.size w W2_0 := below_thru hB2 hN
  have hs3 := hB3.size
  have J_o3 : Hid (IsL W2_0 .u8 (vo) bs) := Lib.hid (IsL.below J_o2.out hN)
  have J_b3 : Hid (IsL W2_0 .u8 (.slice a0 bs.length c0) bs) := Lib.hid (IsL.below J_b2.out hN)
  clear hB2 hs2 J_o2 J_b2
  clear hN hW2_0
  go_wp2_with fail
  refine (P2 _ _ J_b3.out).mono ?_
  rintro e w4 ⟨rfl, hb⟩
  have hB4 : Below w.heap.size w w4 := below_thru hB3 hb
  have hs4 := hB4.size
  have x_f4 : Box w4 (w2.heap.size) (V) := Box.below x_f3 hb
  have J_o4 : Hid (IsL w4 .u8 (vo) bs) := Lib.hid (IsL.below J_o3.out hb)
  have J_b4 : Hid (IsL w4 .u8 (.slice a0 bs.length c0) bs) := Lib.hid (IsL.below J_b3.out hb)
  clear hB3 hs3 x_f3 J_o3 J_b3
  clear hb
  have d_g_f := (x_f4).lt
  have d_g_0 := hs4
  go_upto_region 6 with (refine wpList_store_box (cs := V) rfl _ _ _ rfl (Box.newc (l := Rep.zero.v) rfl rfl) rfl rfl SG.out LG.out OG.out ?_; intro W4_0 hW4_0)
  have hN : Below w4.heap.size w4 W4_0 := (hW4_0.below _ _ (by omega) ((Below.refl _ w4).alloc (Nat.le_refl _) _))
  have x_g5 : Box W4_0 (w4.heap.size) (V) := hW4_0.box
  have hB5 : Below w.heap.size w W4_0 := below_thru hB4 hN
  have hs5 := hB5.size
  have x_f5 : Box W4_0 (w2.heap.size) (V) := Box.below x_f4 hN
  have J_o5 : Hid (IsL W4_0 .u8 (vo) bs) := Lib.hid (IsL.below J_o4.out hN)
  have J_b5 : Hid (IsL W4_0 .u8 (.slice a0 bs.length c0) bs) := Lib.hid (IsL.below J_b4.out hN)
  clear hB4 hs4 x_f4 J_o4 J_b4
  clear hN hW4_0
  go_wp2_with (first
    | (refine wpList_load_box9 rfl _ _ rfl x_f5 rfl Try.underlying26 rfl SG.out ?_)
    | (refine wpList_load_box9 rfl _ _ rfl x_g5 rfl Try.underlying26 rfl SG.out ?_))
  refine (sameb_tt _ J_o5.out J_b5.out).mono ?_
  rintro e w6 ⟨rfl, hb⟩
  have hB6 : Below w.heap.size w w6 := below_thru hB5 hb
  have hs6 := hB6.size
  have x_f6 : Box w6 (w2.heap.size) (V) := Box.below x_f5 hb
  have x_g6 : Box w6 (w4.heap.size) (V) := Box.below x_g5 hb
  have J_o6 : Hid (IsL w6 .u8 (vo) bs) := Lib.hid (IsL.below J_o5.out hb)
  have J_b6 : Hid (IsL w6 .u8 (.slice a0 bs.length c0) bs) := Lib.hid (IsL.below J_b5.out hb)
  clear hB5 hs5 x_f5 x_g5 J_o5 J_b5
  clear hb
  go_wp2_with fail
  go_returns
  exact ⟨rfl, hB6⟩

end Go.Proofs.Ytipkgflonioacaa
