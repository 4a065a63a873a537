/-
  The statements' helpers of layer 5: what a string's digest begins and ends with; the chapter's examples.
-/
import Derived.Test.YtlddlkapabmoeaaDoorShaK
import Derived.Lib.ConvBytes
namespace Go.Proofs.YtlddlkapabmoeaaDoor
open Go.RowKit

def bytesOfS (s : ByteArray) : List Int := s.data.toList.map fun b => (b.toNat : Int)
theorem below_bytes (w : World) (e : TypeId) (s : ByteArray) : Below w.heap.size w (Lib.bytesWorld w e s) :=
  ⟨rfl, rfl, rfl, by rw [Lib.bytesWorld_size]; omega, fun i hi => Lib.bytesWorld_at_old w e s i hi⟩
theorem isl_bytes (w : World) (e : TypeId) (s : ByteArray) (hs : s.size ≤ 1000000) : ∃ c, grownCap w s.size 0 e = c ∧ IsL (Lib.bytesWorld w e s) .u8 (.slice (some ⟨w.heap.size, 0, none⟩) s.size c) (bytesOfS s) := by
  have hl : (bytesOfS s).length = s.size := by simp [bytesOfS]
  refine ⟨_, rfl, some ⟨w.heap.size, 0, none⟩, grownCap w s.size 0 e, by rw [hl], ⟨by rw [hl]; exact grownCap_ge w _ _ _, ?_, fun _ => ⟨w.heap.size, 0, rfl, fun i hi => ?_⟩⟩, fun h => by cases h⟩
  · have := grownCap_le_maxLen w s.size 0 e (by unfold maxLen; omega)
    unfold maxLen at this
    omega
  · rw [hl] at hi
    rw [Nat.zero_add, Lib.bytesWorld_cell w e s i hi]
    unfold nth bytesOfS
    have hi2 : i < s.data.toList.length := by simpa using hi
    rw [List.getD_eq_getElem?_getD, List.getD_eq_getElem?_getD, List.getElem?_map, List.getElem?_eq_getElem hi2]
    rfl
theorem bytesS (s : ByteArray) : bytesL (bytesOfS s) := bytesL.of_all fun x hx => by
  obtain ⟨b, _, rfl⟩ := List.mem_map.1 hx
  have := b.toNat_lt
  omega

set_option maxRecDepth 100000 in
set_option maxHeartbeats 1600000 in
theorem is_tt (s : ByteArray) (a b c d l : Int) (w : World) (hs : s.size ≤ 1000) (hD : Hid (digIs (bytesOfS s) a b c d l)) (hL : Hid (LaidS w)) :
    Calls Tryd.prog 9 #[.string s, .int .u8 a, .int .u8 b, .int .u8 c, .int .u8 d, .int .u8 l] w fun e w' => e = .returned (.bool true) ∧ Below w.heap.size w w' := by
  obtain ⟨cap, hcap, hI⟩ := isl_bytes w 5 s (by omega)
  have hcv := Lib.run_convert_string_bytes (P := Tryd.prog) w 9 28 5 s Tryd.underlying9 Tryd.underlying28 Tryd.underlying5
  have hB := below_bytes w 5 s
  rw [hcap] at hcv
  obtain ⟨W, hW⟩ : ∃ W, Lib.bytesWorld w 5 s = W := ⟨_, rfl⟩
  rw [hW] at hcv hI hB
  have HI := Lib.hid hI
  have hlen : (bytesOfS s).length = s.size := by simp [bytesOfS]
  have HB := Lib.hid (bytesS s)
  have hl2 : (bytesOfS s).length ≤ 128000 := by omega
  obtain ⟨D, hDe⟩ : ∃ D, shaOf (bytesOfS s) = D := ⟨_, rfl⟩
  have HDE := Lib.hid hDe
  have hDl : D.length = 32 := by rw [← hDe]; exact dig_len _
  have hq : nth D 0 = a ∧ nth D 1 = b ∧ nth D 2 = c ∧ nth D 3 = d ∧ nth D 31 = l := by rw [← hDe]; exact hD.out
  have HQ := Lib.hid hq
  have HDL := Lib.hid hDl
  have I32 := Lib.hid (show (Tryd.prog.info? 24).map (·.size) = some (D.map (Value.int .u8)).length by rw [List.length_map, hDl]; exact size32)
  have HLL := Lib.hid (show zero32.length = (D.map (Value.int .u8)).length by rw [List.length_map, hDl]; rfl)
  generalize bytesOfS s = xs at *
  clear hI hW hcap hlen hDe hDl hq hD
  go_enter Tryd.func9, Tryd.ntmps9
  go_wp2_with fail
  refine (sum_ok _ HI hl2 HB HDE (Lib.hid (hL.out.below hB))).mono ?_
  rintro e w1 ⟨rfl, hb⟩
  have hB1 := below_thru hB hb
  have hs1 := hB1.size
  clear hb hB hcv
  go_upto_region 2 with (refine wpList_store_box (cs := D.map (Value.int .u8)) rfl _ _ _ rfl (Box.newc (l := zero32) rfl rfl) rfl rfl I32.out HLL.out (oneCell_ints _) ?_; intro W3 hW3)
  have hB3 := hW3.below _ _ hs1 (hB1.alloc hs1 _)
  have c0 := hW3.box.c 0 _ (nth_get 0 (by have := HDL.out; omega))
  have c1 := hW3.box.c 1 _ (nth_get 1 (by have := HDL.out; omega))
  have c2 := hW3.box.c 2 _ (nth_get 2 (by have := HDL.out; omega))
  have c3 := hW3.box.c 3 _ (nth_get 3 (by have := HDL.out; omega))
  have c4 := hW3.box.c 31 _ (nth_get 31 (by have := HDL.out; omega))
  rw [HQ.out.1] at c0
  rw [HQ.out.2.1] at c1
  rw [HQ.out.2.2.1] at c2
  rw [HQ.out.2.2.2.1] at c3
  rw [HQ.out.2.2.2.2] at c4
  clear hW3
  go_wp2_with fail
  go_returns
  exact ⟨rfl, hB3⟩

theorem digs0 : Hid (digIs (bytesOfS ⟨#[]⟩) 227 176 196 66 85) := by
  rw [show bytesOfS ⟨#[]⟩ = [] from rfl]; exact Lib.hid dig0
theorem digs3 : Hid (digIs (bytesOfS ⟨#[97, 98, 99]⟩) 186 120 22 191 173) := by
  rw [show bytesOfS ⟨#[97, 98, 99]⟩ = msg3 from rfl]; exact Lib.hid dig3
theorem pad3_zero : ∀ i, i < 60 → 0 < i → nth (padL 3) i = 0 := by decide +kernel
set_option maxRecDepth 100000 in
set_option maxHeartbeats 1600000 in
theorem alive_tt (w : World) (hL : Hid (LaidS w)) : Calls Tryd.prog 15 #[] w fun e w' => e = .returned (.bool true) ∧ Below w.heap.size w w' := by
  go_enter Tryd.func15, Tryd.ntmps15
  go_wp2_with fail
  refine (pad_ok 3 _ (by omega)).mono ?_
  rintro e w1 ⟨v1, rfl, hv1, hb1⟩
  obtain ⟨a1, c1, rfl, hi1, hn1⟩ := hv1
  have HI1 := Lib.hid (show IsL w1 .u8 (.slice a1 (padL 3).length c1) (padL 3) from ⟨a1, c1, rfl, hi1, hn1⟩)
  rw [show (padL 3).length = 61 from by decide +kernel] at HI1 ⊢
  clear hi1 hn1
  go_wp2_with fail
  refine (pad_ok 56 _ (by omega)).mono ?_
  rintro e w2 ⟨v2, rfl, hv2, hb2⟩
  obtain ⟨a2, c2, rfl, hi2, hn2⟩ := hv2
  rw [show (padL 56).length = 72 from by decide +kernel]
  clear hi2 hn2
  have hB2 : Below w.heap.size w w2 := below_thru hb1 hb2
  obtain ⟨b, off, rfl, hc⟩ := HI1.out.get 0 (by decide +kernel)
  have HC := Lib.hid (show ∀ i, i < 61 → w2.cell? ⟨b, off + i, none⟩ = some (.int .u8 (nth (padL 3) i)) from fun i hi => by
    obtain ⟨b', off', e, h⟩ := HI1.out.get i (by rw [show (padL 3).length = 61 from by decide +kernel]; exact hi)
    cases e
    exact cell_below hb2 h)
  have hcap := HI1.out.room
  have hc1 : 61 ≤ c1 ∧ c1 ≤ 9223372036854775807 := by rw [show (padL 3).length = 61 from by decide +kernel] at hcap; exact hcap.2
  have hc1a := hc1.1
  have hc1b := hc1.2
  clear hb1 hb2 hc hcap HI1 hc1
  have d0 : w2.cell? ⟨b, off, none⟩ = some (.int .u8 128) := HC.out 0 (by omega)
  have d60 : w2.cell? ⟨b, off + 60, none⟩ = some (.int .u8 24) := by rw [HC.out 60 (by omega)]; rfl
  go_wp2_with fail
  clear d0 d60
  go_loopw [5] (fun i wr => ∃ k : Nat, 1 ≤ k ∧ k ≤ 60 ∧ i = .int .i64 k ∧ wr = w2) (fun i _ => 60 - (intOf i).toNat)
  case atStart => exact ⟨1, by omega, by omega, rfl, rfl⟩
  case round =>
    obtain ⟨k, hk1, hk, rfl, rfl⟩ := hrel
    by_cases hlt : k < 60
    · have cz := HC.out k (by omega)
      rw [pad3_zero k hlt (by omega)] at cz
      go_wp2_with fail
      go_roundw
      case rel => exact ⟨k + 1, by omega, by omega, by go_num, trivial⟩
      case measure => simp [intOf]; omega
    · go_wp2_with fail
      refine (is_tt ⟨#[]⟩ _ _ _ _ _ _ (by decide) digs0 (Lib.hid (hL.out.below hB2))).mono ?_
      rintro e w3 ⟨rfl, hb3⟩
      have hB3 : Below w.heap.size w w3 := below_thru hB2 hb3
      clear hb3
      go_wp2_with fail
      refine (is_tt ⟨#[97, 98, 99]⟩ _ _ _ _ _ _ (by decide) digs3 (Lib.hid (hL.out.below hB3))).mono ?_
      rintro e w4 ⟨rfl, hb4⟩
      have hB4 : Below w.heap.size w w4 := below_thru hB3 hb4
      clear hb4
      go_wp2_with fail
      go_returns
      exact ⟨rfl, hB4⟩

end Go.Proofs.YtlddlkapabmoeaaDoor
