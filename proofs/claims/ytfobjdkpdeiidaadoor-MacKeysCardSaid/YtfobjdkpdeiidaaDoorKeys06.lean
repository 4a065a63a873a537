/-
  MacKeys, walked: it returns true.
-/
import Derived.Test.YtfobjdkpdeiidaaDoorZer06
import Derived.Test.YtfobjdkpdeiidaaDoorSums06
namespace Go.Proofs.YtfobjdkpdeiidaaDoor
open Go.RowKit

theorem tag_blk {K K' : List Int} (h : blk K = blk K') (b : List Int) : tagL K b = tagL K' b := by
  unfold tagL outerL innerL padO padI
  rw [h]
theorem pads_blk {K K' : List Int} (h : blk K = blk K') : padI K = padI K' ∧ padO K = padO K' := by
  unfold padO padI
  rw [h]
  exact ⟨rfl, rfl⟩
theorem isl_zeros {w : World} {B n z : Nat} {v : Value} {K : List Int} (h : w.ownsRow B 5 1 v (n + z) (K.map (Value.int .u8) ++ List.replicate z (Value.int .u8 0))) (hn : n = K.length) : IsL w .u8 v (K ++ List.replicate z 0) := by
  subst hn
  refine IsL.own (B := B) (e := 5) (n := K.length + z) ?_ (by rw [List.length_append, List.length_replicate])
  rw [List.map_append, List.map_replicate]
  exact h

set_option maxRecDepth 100000 in
set_option maxHeartbeats 1600000 in
theorem keys6_long {a0 a1 : Option Addr} {c0 c1 : Nat} {K xs : List Int} {n : Int} (w : World) (hl : 200 < K.length ∨ 1000 < xs.length ∨ n < 0 ∨ 64 < n) (m0 : K.length ≤ 9223372036854775807) (m1 : xs.length ≤ 9223372036854775807) (hL : Hid (LaidS w)) :
    Calls Tryd.prog 6 #[.slice a0 K.length c0, .int .i64 n, .slice a1 xs.length c1] w fun e w' => e = .returned (.bool true) ∧ Below w.heap.size w w' := by
  by_cases q0 : 200 < K.length
  · clear hl
    go_enter Tryd.func6, Tryd.ntmps6
    go_wp2_with fail
    refine (alive6_tt _ hL).mono ?_
    rintro e w1 ⟨rfl, hb⟩
    go_wp2_with fail
    go_returns
    exact ⟨rfl, hb⟩
  · have p0 : K.length ≤ 200 := by omega
    clear q0
    by_cases q1 : 1000 < xs.length
    · clear hl
      go_enter Tryd.func6, Tryd.ntmps6
      go_wp2_with fail
      refine (alive6_tt _ hL).mono ?_
      rintro e w1 ⟨rfl, hb⟩
      go_wp2_with fail
      go_returns
      exact ⟨rfl, hb⟩
    · have p1 : xs.length ≤ 1000 := by omega
      clear q1
      by_cases q2 : n < 0
      · clear hl
        go_enter Tryd.func6, Tryd.ntmps6
        go_wp2_with fail
        refine (alive6_tt _ hL).mono ?_
        rintro e w1 ⟨rfl, hb⟩
        go_wp2_with fail
        go_returns
        exact ⟨rfl, hb⟩
      · have q3 : 64 < n := by omega
        clear hl
        go_enter Tryd.func6, Tryd.ntmps6
        go_wp2_with fail
        refine (alive6_tt _ hL).mono ?_
        rintro e w1 ⟨rfl, hb⟩
        go_wp2_with fail
        go_returns
        exact ⟨rfl, hb⟩

set_option maxRecDepth 100000 in
set_option maxHeartbeats 6400000 in
theorem keys6_big {a0 a1 : Option Addr} {c0 c1 z : Nat} {K xs : List Int} (w : World) (hl2 : xs.length ≤ 1000) (hz : z ≤ 64) (h64 : 64 < K.length) (h200 : K.length ≤ 200)
    (i0 : Hid (IsL w .u8 (.slice a0 K.length c0) K)) (i1 : Hid (IsL w .u8 (.slice a1 xs.length c1) xs)) (hk : Hid (bytesL K)) (hx : Hid (bytesL xs)) (hL : Hid (LaidS w)) :
    Calls Tryd.prog 6 #[.slice a0 K.length c0, .int .i64 (z : Int), .slice a1 xs.length c1] w fun e w' => e = .returned (.bool true) ∧ Below w.heap.size w w' := by
  have lK : K.length ≤ 200 := by omega
  obtain ⟨T, hT⟩ : ∃ P, tagL K xs = P := ⟨_, rfl⟩
  have lT : T.length = 32 := by rw [← hT]; exact tagL_len K xs
  have H4 := Lib.hid hT
  obtain ⟨D, hD⟩ : ∃ P, shaOf K = P := ⟨_, rfl⟩
  have lD : D.length = 32 := by rw [← hD]; exact shaOf_len K
  have H5 := Lib.hid hD
  have H6 := Lib.hid (show tagL D xs = T by rw [← hT, ← hD]; exact tag_blk (blk_digest h64) xs)
  have BD := Lib.hid (show bytesL D by rw [← hD]; exact shaOf_bytes _)
  have LD := Lib.hid lD
  have SD := Lib.hid (size_dig lD)
  have ND := Lib.hid (len_dig lD)
  clear hT hD lD
  have ST := Lib.hid (size_dig lT)
  have NT := Lib.hid (len_dig lT)
  have ET := Lib.hid (eq_b32 lT)
  obtain ⟨ti, hin, hz0, hz1, hz2⟩ := info8
  have m0 := i0.out.room
  have m1 := i1.out.room
  have m2 := m0.2.1
  have m3 := m0.2.2
  have m4 := m1.2.1
  have m5 := m1.2.2
  clear lT m0 m1
  go_enter Tryd.func6, Tryd.ntmps6
  have hB0 : Below w.heap.size w w := Below.refl _ _
  have hs0 := hB0.size
  have J_k0 : Hid (IsL w .u8 (.slice a0 K.length c0) K) := i0
  have J_x0 : Hid (IsL w .u8 (.slice a1 xs.length c1) xs) := i1
  clear i0 i1
  go_wp2_with fail
  refine (tag_ok _ J_k0 J_x0 lK (by omega) hk hx H4 (Lib.hid (hL.out.below hB0))).mono ?_
  rintro e w1 ⟨rfl, hb⟩
  have hB1 : Below w.heap.size w w1 := below_thru hB0 hb
  have hs1 := hB1.size
  have J_k1 : Hid (IsL w1 .u8 (.slice a0 K.length c0) K) := Lib.hid (IsL.below J_k0.out hb)
  have J_x1 : Hid (IsL w1 .u8 (.slice a1 xs.length c1) xs) := Lib.hid (IsL.below J_x0.out hb)
  clear hB0 hs0 J_k0 J_x0
  clear hb
  go_upto_region 4 with (refine wpList_store_box (cs := T.map (Value.int .u8)) rfl _ _ _ rfl (Box.newc (l := zero32) rfl rfl) rfl rfl ST.out NT.out (oneCell_ints _) ?_; intro W1_0 hW1_0)
  have hN : Below w1.heap.size w1 W1_0 := (hW1_0.below _ _ (by omega) ((Below.refl _ w1).alloc (Nat.le_refl _) _))
  have x_t2 : Box W1_0 (w1.heap.size) (T.map (Value.int .u8)) := hW1_0.box
  have hB2 : Below w.heap.size w W1_0 := below_thru hB1 hN
  have hs2 := hB2.size
  have J_k2 : Hid (IsL W1_0 .u8 (.slice a0 K.length c0) K) := Lib.hid (IsL.below J_k1.out hN)
  have J_x2 : Hid (IsL W1_0 .u8 (.slice a1 xs.length c1) xs) := Lib.hid (IsL.below J_x1.out hN)
  clear hB1 hs1 J_k1 J_x1
  clear hN hW1_0
  go_wp2_with fail
  refine (sum_ok _ J_k2 (by omega) hk H5 (Lib.hid (hL.out.below hB2))).mono ?_
  rintro e w3 ⟨rfl, hb⟩
  have hB3 : Below w.heap.size w w3 := below_thru hB2 hb
  have hs3 := hB3.size
  have x_t3 : Box w3 (w1.heap.size) (T.map (Value.int .u8)) := Box.below x_t2 hb
  have J_k3 : Hid (IsL w3 .u8 (.slice a0 K.length c0) K) := Lib.hid (IsL.below J_k2.out hb)
  have J_x3 : Hid (IsL w3 .u8 (.slice a1 xs.length c1) xs) := Lib.hid (IsL.below J_x2.out hb)
  clear hB2 hs2 x_t2 J_k2 J_x2
  clear hb
  go_upto_region 8 with (refine wpList_store_box (cs := D.map (Value.int .u8)) rfl _ _ _ rfl (Box.newc (l := zero32) rfl rfl) rfl rfl SD.out ND.out (oneCell_ints _) ?_; intro W3_0 hW3_0)
  have hN : Below w3.heap.size w3 W3_0 := (hW3_0.below _ _ (by omega) ((Below.refl _ w3).alloc (Nat.le_refl _) _))
  have x_d4 : Box W3_0 (w3.heap.size) (D.map (Value.int .u8)) := hW3_0.box
  have hB4 : Below w.heap.size w W3_0 := below_thru hB3 hN
  have hs4 := hB4.size
  have x_t4 : Box W3_0 (w1.heap.size) (T.map (Value.int .u8)) := Box.below x_t3 hN
  have J_k4 : Hid (IsL W3_0 .u8 (.slice a0 K.length c0) K) := Lib.hid (IsL.below J_k3.out hN)
  have J_x4 : Hid (IsL W3_0 .u8 (.slice a1 xs.length c1) xs) := Lib.hid (IsL.below J_x3.out hN)
  clear hB3 hs3 x_t3 J_k3 J_x3
  clear hN hW3_0
  go_wp2_with fail
  refine (tag_ok _ (Lib.hid (IsL.box 32 LD.out x_d4 (by omega))) J_x4 (by have := LD.out; omega) (by omega) BD hx H6 (Lib.hid (hL.out.below hB4))).mono ?_
  rintro e w5 ⟨rfl, hb⟩
  have hB5 : Below w.heap.size w w5 := below_thru hB4 hb
  have hs5 := hB5.size
  have x_t5 : Box w5 (w1.heap.size) (T.map (Value.int .u8)) := Box.below x_t4 hb
  have x_d5 : Box w5 (w3.heap.size) (D.map (Value.int .u8)) := Box.below x_d4 hb
  have J_k5 : Hid (IsL w5 .u8 (.slice a0 K.length c0) K) := Lib.hid (IsL.below J_k4.out hb)
  have J_x5 : Hid (IsL w5 .u8 (.slice a1 xs.length c1) xs) := Lib.hid (IsL.below J_x4.out hb)
  clear hB4 hs4 x_t4 x_d4 J_k4 J_x4
  clear hb
  go_upto_region 9 with (refine wpList_store_box (cs := T.map (Value.int .u8)) rfl _ _ _ rfl (Box.newc (l := zero32) rfl rfl) rfl rfl ST.out NT.out (oneCell_ints _) ?_; intro W5_0 hW5_0)
  have hN : Below w5.heap.size w5 W5_0 := (hW5_0.below _ _ (by omega) ((Below.refl _ w5).alloc (Nat.le_refl _) _))
  have x_s6 : Box W5_0 (w5.heap.size) (T.map (Value.int .u8)) := hW5_0.box
  have hB6 : Below w.heap.size w W5_0 := below_thru hB5 hN
  have hs6 := hB6.size
  have x_t6 : Box W5_0 (w1.heap.size) (T.map (Value.int .u8)) := Box.below x_t5 hN
  have x_d6 : Box W5_0 (w3.heap.size) (D.map (Value.int .u8)) := Box.below x_d5 hN
  have J_k6 : Hid (IsL W5_0 .u8 (.slice a0 K.length c0) K) := Lib.hid (IsL.below J_k5.out hN)
  have J_x6 : Hid (IsL W5_0 .u8 (.slice a1 xs.length c1) xs) := Lib.hid (IsL.below J_x5.out hN)
  clear hB5 hs5 x_t5 x_d5 J_k5 J_x5
  clear hN hW5_0
  clear x_d6
  clear J_k6
  clear J_x6
  have FT : ∀ W, (Op.equalIn 10000 31 (.agg (T.map (Value.int .u8)).toArray) (.agg (T.map (Value.int .u8)).toArray)).run Tryd.prog W = .ok true W := ET.out
  go_wp2_with (first
    | (refine wpList_load_boxw rfl _ _ rfl x_s6 rfl Tryd.underlying31 rfl ST.out ?_)
    | (refine wpList_load_boxw rfl _ _ rfl x_t6 rfl Tryd.underlying31 rfl ST.out ?_))
  refine (alive6_tt _ (Lib.hid (hL.out.below hB6))).mono ?_
  rintro e wl ⟨rfl, hb⟩
  have hBl := below_thru hB6 hb
  go_wp2_with fail
  go_returns
  exact ⟨rfl, hBl⟩

set_option maxRecDepth 100000 in
set_option maxHeartbeats 6400000 in
theorem keys6_past {a0 a1 : Option Addr} {c0 c1 z : Nat} {K xs : List Int} (w : World) (hl2 : xs.length ≤ 1000) (hz : z ≤ 64) (h64 : K.length ≤ 64) (hov : 64 < K.length + z)
    (i0 : Hid (IsL w .u8 (.slice a0 K.length c0) K)) (i1 : Hid (IsL w .u8 (.slice a1 xs.length c1) xs)) (hk : Hid (bytesL K)) (hx : Hid (bytesL xs)) (hL : Hid (LaidS w)) :
    Calls Tryd.prog 6 #[.slice a0 K.length c0, .int .i64 (z : Int), .slice a1 xs.length c1] w fun e w' => e = .returned (.bool true) ∧ Below w.heap.size w w' := by
  have lK : K.length ≤ 200 := by omega
  obtain ⟨T, hT⟩ : ∃ P, tagL K xs = P := ⟨_, rfl⟩
  have lT : T.length = 32 := by rw [← hT]; exact tagL_len K xs
  have H4 := Lib.hid hT
  clear hT
  have ST := Lib.hid (size_dig lT)
  have NT := Lib.hid (len_dig lT)
  have m0 := i0.out.room
  have m1 := i1.out.room
  have m2 := m0.2.1
  have m3 := m0.2.2
  have m4 := m1.2.1
  have m5 := m1.2.2
  clear lT m0 m1
  go_enter Tryd.func6, Tryd.ntmps6
  have hB0 : Below w.heap.size w w := Below.refl _ _
  have hs0 := hB0.size
  have J_k0 : Hid (IsL w .u8 (.slice a0 K.length c0) K) := i0
  have J_x0 : Hid (IsL w .u8 (.slice a1 xs.length c1) xs) := i1
  clear i0 i1
  go_wp2_with fail
  refine (tag_ok _ J_k0 J_x0 lK (by omega) hk hx H4 (Lib.hid (hL.out.below hB0))).mono ?_
  rintro e w1 ⟨rfl, hb⟩
  have hB1 : Below w.heap.size w w1 := below_thru hB0 hb
  have hs1 := hB1.size
  have J_k1 : Hid (IsL w1 .u8 (.slice a0 K.length c0) K) := Lib.hid (IsL.below J_k0.out hb)
  have J_x1 : Hid (IsL w1 .u8 (.slice a1 xs.length c1) xs) := Lib.hid (IsL.below J_x0.out hb)
  clear hB0 hs0 J_k0 J_x0
  clear hb
  go_upto_region 4 with (refine wpList_store_box (cs := T.map (Value.int .u8)) rfl _ _ _ rfl (Box.newc (l := zero32) rfl rfl) rfl rfl ST.out NT.out (oneCell_ints _) ?_; intro W1_0 hW1_0)
  have hN : Below w1.heap.size w1 W1_0 := (hW1_0.below _ _ (by omega) ((Below.refl _ w1).alloc (Nat.le_refl _) _))
  have x_t2 : Box W1_0 (w1.heap.size) (T.map (Value.int .u8)) := hW1_0.box
  have hB2 : Below w.heap.size w W1_0 := below_thru hB1 hN
  have hs2 := hB2.size
  have J_k2 : Hid (IsL W1_0 .u8 (.slice a0 K.length c0) K) := Lib.hid (IsL.below J_k1.out hN)
  have J_x2 : Hid (IsL W1_0 .u8 (.slice a1 xs.length c1) xs) := Lib.hid (IsL.below J_x1.out hN)
  clear hB1 hs1 J_k1 J_x1
  clear hN hW1_0
  clear J_k2
  clear J_x2
  clear x_t2
  go_wp2_with fail
  refine (alive6_tt _ (Lib.hid (hL.out.below hB2))).mono ?_
  rintro e wl ⟨rfl, hb⟩
  have hBl := below_thru hB2 hb
  go_wp2_with fail
  go_returns
  exact ⟨rfl, hBl⟩

set_option maxRecDepth 100000 in
set_option maxHeartbeats 6400000 in
theorem keys6_main {a0 a1 : Option Addr} {c0 c1 z : Nat} {K xs : List Int} (w : World) (hl2 : xs.length ≤ 1000) (hz : z ≤ 64) (h64 : K.length + z ≤ 64)
    (i0 : Hid (IsL w .u8 (.slice a0 K.length c0) K)) (i1 : Hid (IsL w .u8 (.slice a1 xs.length c1) xs)) (hk : Hid (bytesL K)) (hx : Hid (bytesL xs)) (hL : Hid (LaidS w)) :
    Calls Tryd.prog 6 #[.slice a0 K.length c0, .int .i64 (z : Int), .slice a1 xs.length c1] w fun e w' => e = .returned (.bool true) ∧ Below w.heap.size w w' := by
  have lK : K.length ≤ 200 := by omega
  obtain ⟨T, hT⟩ : ∃ P, tagL K xs = P := ⟨_, rfl⟩
  have lT : T.length = 32 := by rw [← hT]; exact tagL_len K xs
  have H4 := Lib.hid hT
  obtain ⟨P, hP⟩ : ∃ P, padI K = P := ⟨_, rfl⟩
  obtain ⟨Q, hQ⟩ : ∃ P, padO K = P := ⟨_, rfl⟩
  have lP : P.length = 64 := by rw [← hP]; exact padI_len K
  have lQ : Q.length = 64 := by rw [← hQ]; exact padO_len K
  have hb := blk_zeros h64
  have hkl : ([] ++ K ++ List.replicate z 0).length = K.length + z := by simp
  have H1 := Lib.hid (show padsOut K = (P, Q, 0) by unfold padsOut; rw [if_neg (by omega), hP, hQ])
  have H2 := Lib.hid (show padsOut ([] ++ K ++ List.replicate z 0) = (P, Q, 0) by unfold padsOut; rw [if_neg (by omega), List.nil_append, (pads_blk hb).1, (pads_blk hb).2, hP, hQ])
  have H3 := Lib.hid (show tagL ([] ++ K ++ List.replicate z 0) xs = T by rw [List.nil_append, tag_blk hb, hT])
  have HKB := Lib.hid (show bytesL ([] ++ K ++ List.replicate z 0) from (bytesL.nil.append hk.out).append (zeros_bytes z))
  have HKL := Lib.hid (show ([] ++ K ++ List.replicate z 0).length ≤ 200 by omega)
  have SP := Lib.hid (size_of64 lP)
  have NP := Lib.hid (len_of64 lP)
  have EP := Lib.hid (eq_b64 lP)
  have SQ := Lib.hid (size_of64 lQ)
  have NQ := Lib.hid (len_of64 lQ)
  have EQ := Lib.hid (eq_b64 lQ)
  clear hT hP hQ lP lQ hb hkl
  have ST := Lib.hid (size_dig lT)
  have NT := Lib.hid (len_dig lT)
  have ET := Lib.hid (eq_b32 lT)
  obtain ⟨ti, hin, hz0, hz1, hz2⟩ := info8
  have m0 := i0.out.room
  have m1 := i1.out.room
  have m2 := m0.2.1
  have m3 := m0.2.2
  have m4 := m1.2.1
  have m5 := m1.2.2
  clear lT m0 m1
  go_enter Tryd.func6, Tryd.ntmps6
  have hB0 : Below w.heap.size w w := Below.refl _ _
  have hs0 := hB0.size
  have J_k0 : Hid (IsL w .u8 (.slice a0 K.length c0) K) := i0
  have J_x0 : Hid (IsL w .u8 (.slice a1 xs.length c1) xs) := i1
  clear i0 i1
  go_wp2_with fail
  refine (tag_ok _ J_k0 J_x0 lK (by omega) hk hx H4 (Lib.hid (hL.out.below hB0))).mono ?_
  rintro e w1 ⟨rfl, hb⟩
  have hB1 : Below w.heap.size w w1 := below_thru hB0 hb
  have hs1 := hB1.size
  have J_k1 : Hid (IsL w1 .u8 (.slice a0 K.length c0) K) := Lib.hid (IsL.below J_k0.out hb)
  have J_x1 : Hid (IsL w1 .u8 (.slice a1 xs.length c1) xs) := Lib.hid (IsL.below J_x0.out hb)
  clear hB0 hs0 J_k0 J_x0
  clear hb
  go_upto_region 4 with (refine wpList_store_box (cs := T.map (Value.int .u8)) rfl _ _ _ rfl (Box.newc (l := zero32) rfl rfl) rfl rfl ST.out NT.out (oneCell_ints _) ?_; intro W1_0 hW1_0)
  have hN : Below w1.heap.size w1 W1_0 := (hW1_0.below _ _ (by omega) ((Below.refl _ w1).alloc (Nat.le_refl _) _))
  have x_t2 : Box W1_0 (w1.heap.size) (T.map (Value.int .u8)) := hW1_0.box
  have hB2 : Below w.heap.size w W1_0 := below_thru hB1 hN
  have hs2 := hB2.size
  have J_k2 : Hid (IsL W1_0 .u8 (.slice a0 K.length c0) K) := Lib.hid (IsL.below J_k1.out hN)
  have J_x2 : Hid (IsL W1_0 .u8 (.slice a1 xs.length c1) xs) := Lib.hid (IsL.below J_x1.out hN)
  clear hB1 hs1 J_k1 J_x1
  clear hN hW1_0
  go_wp2_with fail
  refine (pads_any _ J_k2 hk H1 (Lib.hid (hL.out.below hB2))).mono ?_
  rintro e w3 ⟨rfl, hb⟩
  have hB3 : Below w.heap.size w w3 := below_thru hB2 hb
  have hs3 := hB3.size
  have x_t3 : Box w3 (w1.heap.size) (T.map (Value.int .u8)) := Box.below x_t2 hb
  have J_k3 : Hid (IsL w3 .u8 (.slice a0 K.length c0) K) := Lib.hid (IsL.below J_k2.out hb)
  have J_x3 : Hid (IsL w3 .u8 (.slice a1 xs.length c1) xs) := Lib.hid (IsL.below J_x2.out hb)
  clear hB2 hs2 x_t2 J_k2 J_x2
  clear hb
  go_upto_region 13 with (first
    | (refine wpList_store_box (cs := P.map (Value.int .u8)) rfl _ _ _ rfl (Box.alloc (Box.newc (l := zero64) rfl rfl) _) rfl rfl SP.out NP.out (oneCell_ints _) ?_; intro W3_0 hW3_0)
    | (refine wpList_store_box (cs := Q.map (Value.int .u8)) rfl _ _ _ rfl (hW3_0.past _ _ (by omega) (Box.newc (l := zero64) rfl (by simp))) rfl rfl SQ.out NQ.out (oneCell_ints _) ?_; intro W3_1 hW3_1))
  have hN : Below w3.heap.size w3 W3_1 := (hW3_1.below _ _ (by omega) (hW3_0.below _ _ (by omega) (((Below.refl _ w3).alloc (Nat.le_refl _) _).alloc (by simp) _)))
  have x_p4 : Box W3_1 (w3.heap.size) (P.map (Value.int .u8)) := (hW3_1.past _ _ (by omega) hW3_0.box)
  have x_q4 : Box W3_1 (w3.heap.size + 1) (Q.map (Value.int .u8)) := hW3_1.box
  have hB4 : Below w.heap.size w W3_1 := below_thru hB3 hN
  have hs4 := hB4.size
  have x_t4 : Box W3_1 (w1.heap.size) (T.map (Value.int .u8)) := Box.below x_t3 hN
  have J_k4 : Hid (IsL W3_1 .u8 (.slice a0 K.length c0) K) := Lib.hid (IsL.below J_k3.out hN)
  have J_x4 : Hid (IsL W3_1 .u8 (.slice a1 xs.length c1) xs) := Lib.hid (IsL.below J_x3.out hN)
  clear hB3 hs3 x_t3 J_k3 J_x3
  clear hN hW3_0 hW3_1
  go_wp2_with (first
    | (at_builtin; refine wpList_append_built rfl _ _ 23 rfl 5 ti (.int .u8 0) 1 .u8 Tryd.underlying23 hin hz0 hz1 hz2 rfl [] K _ (.slice a0 K.length c0) _ _ _ rfl rfl rfl rfl rfl rfl J_k4.out (by unfold maxLen; simp <;> omega) (by simp <;> omega) ?_; intro va wa howa hba)
    | (at_builtin; refine wpList_append_zeros rfl _ _ 23 3 rfl W3_1.heap.size 5 ti (.int .u8 0) .i64 .i64 Tryd.underlying23 Tryd.underlying3 hin hz0 hz1 hz2 rfl rfl va ([] ++ K).length _ z rfl rfl howa (by simp <;> omega) hba.size ?_; intro vb1 wb1 howb hgb))
  have hN : Below W3_1.heap.size W3_1 wb1 := hba.grown hgb hba.size (own_block howa)
  have J9 := Lib.hid (isl_zeros howb (by simp))
  have hB5 : Below w.heap.size w wb1 := below_thru hB4 hN
  have hs5 := hB5.size
  have x_t5 : Box wb1 (w1.heap.size) (T.map (Value.int .u8)) := Box.below x_t4 hN
  have x_p5 : Box wb1 (w3.heap.size) (P.map (Value.int .u8)) := Box.below x_p4 hN
  have x_q5 : Box wb1 (w3.heap.size + 1) (Q.map (Value.int .u8)) := Box.below x_q4 hN
  have J_k5 : Hid (IsL wb1 .u8 (.slice a0 K.length c0) K) := Lib.hid (IsL.below J_k4.out hN)
  have J_x5 : Hid (IsL wb1 .u8 (.slice a1 xs.length c1) xs) := Lib.hid (IsL.below J_x4.out hN)
  clear hB4 hs4 x_t4 x_p4 x_q4 J_k4 J_x4
  clear hN hba howa howb hgb
  have J_z5 : Hid (IsL wb1 .u8 vb1 ([] ++ K ++ List.replicate z 0)) := J9
  clear J9
  refine (pads_any _ J_z5 HKB H2 (Lib.hid (hL.out.below hB5))).mono ?_
  rintro e w6 ⟨rfl, hb⟩
  have hB6 : Below w.heap.size w w6 := below_thru hB5 hb
  have hs6 := hB6.size
  have x_t6 : Box w6 (w1.heap.size) (T.map (Value.int .u8)) := Box.below x_t5 hb
  have x_p6 : Box w6 (w3.heap.size) (P.map (Value.int .u8)) := Box.below x_p5 hb
  have x_q6 : Box w6 (w3.heap.size + 1) (Q.map (Value.int .u8)) := Box.below x_q5 hb
  have J_k6 : Hid (IsL w6 .u8 (.slice a0 K.length c0) K) := Lib.hid (IsL.below J_k5.out hb)
  have J_x6 : Hid (IsL w6 .u8 (.slice a1 xs.length c1) xs) := Lib.hid (IsL.below J_x5.out hb)
  have J_z6 : Hid (IsL w6 .u8 (vb1) ([] ++ K ++ List.replicate z 0)) := Lib.hid (IsL.below J_z5.out hb)
  clear hB5 hs5 x_t5 x_p5 x_q5 J_k5 J_x5 J_z5
  clear hb
  clear J_z6
  go_upto_region 14 with (first
    | (refine wpList_store_box (cs := P.map (Value.int .u8)) rfl _ _ _ rfl (Box.alloc (Box.newc (l := zero64) rfl rfl) _) rfl rfl SP.out NP.out (oneCell_ints _) ?_; intro W6_0 hW6_0)
    | (refine wpList_store_box (cs := Q.map (Value.int .u8)) rfl _ _ _ rfl (hW6_0.past _ _ (by omega) (Box.newc (l := zero64) rfl (by simp))) rfl rfl SQ.out NQ.out (oneCell_ints _) ?_; intro W6_1 hW6_1))
  have hN : Below w6.heap.size w6 W6_1 := (hW6_1.below _ _ (by omega) (hW6_0.below _ _ (by omega) (((Below.refl _ w6).alloc (Nat.le_refl _) _).alloc (by simp) _)))
  have x_r7 : Box W6_1 (w6.heap.size) (P.map (Value.int .u8)) := (hW6_1.past _ _ (by omega) hW6_0.box)
  have x_s7 : Box W6_1 (w6.heap.size + 1) (Q.map (Value.int .u8)) := hW6_1.box
  have hB7 : Below w.heap.size w W6_1 := below_thru hB6 hN
  have hs7 := hB7.size
  have x_t7 : Box W6_1 (w1.heap.size) (T.map (Value.int .u8)) := Box.below x_t6 hN
  have x_p7 : Box W6_1 (w3.heap.size) (P.map (Value.int .u8)) := Box.below x_p6 hN
  have x_q7 : Box W6_1 (w3.heap.size + 1) (Q.map (Value.int .u8)) := Box.below x_q6 hN
  have J_k7 : Hid (IsL W6_1 .u8 (.slice a0 K.length c0) K) := Lib.hid (IsL.below J_k6.out hN)
  have J_x7 : Hid (IsL W6_1 .u8 (.slice a1 xs.length c1) xs) := Lib.hid (IsL.below J_x6.out hN)
  clear hB6 hs6 x_t6 x_p6 x_q6 J_k6 J_x6
  clear hN hW6_0 hW6_1
  go_wp2_with (first
    | (at_builtin; refine wpList_append_built rfl _ _ 23 rfl 5 ti (.int .u8 0) 1 .u8 Tryd.underlying23 hin hz0 hz1 hz2 rfl [] K _ (.slice a0 K.length c0) _ _ _ rfl rfl rfl rfl rfl rfl J_k7.out (by unfold maxLen; simp <;> omega) (by simp <;> omega) ?_; intro va wa howa hba)
    | (at_builtin; refine wpList_append_zeros rfl _ _ 23 3 rfl W6_1.heap.size 5 ti (.int .u8 0) .i64 .i64 Tryd.underlying23 Tryd.underlying3 hin hz0 hz1 hz2 rfl rfl va ([] ++ K).length _ z rfl rfl howa (by simp <;> omega) hba.size ?_; intro vb2 wb2 howb hgb))
  have hN : Below W6_1.heap.size W6_1 wb2 := hba.grown hgb hba.size (own_block howa)
  have J9 := Lib.hid (isl_zeros howb (by simp))
  have hB8 : Below w.heap.size w wb2 := below_thru hB7 hN
  have hs8 := hB8.size
  have x_t8 : Box wb2 (w1.heap.size) (T.map (Value.int .u8)) := Box.below x_t7 hN
  have x_p8 : Box wb2 (w3.heap.size) (P.map (Value.int .u8)) := Box.below x_p7 hN
  have x_q8 : Box wb2 (w3.heap.size + 1) (Q.map (Value.int .u8)) := Box.below x_q7 hN
  have x_r8 : Box wb2 (w6.heap.size) (P.map (Value.int .u8)) := Box.below x_r7 hN
  have x_s8 : Box wb2 (w6.heap.size + 1) (Q.map (Value.int .u8)) := Box.below x_s7 hN
  have J_k8 : Hid (IsL wb2 .u8 (.slice a0 K.length c0) K) := Lib.hid (IsL.below J_k7.out hN)
  have J_x8 : Hid (IsL wb2 .u8 (.slice a1 xs.length c1) xs) := Lib.hid (IsL.below J_x7.out hN)
  clear hB7 hs7 x_t7 x_p7 x_q7 x_r7 x_s7 J_k7 J_x7
  clear hN hba howa howb hgb
  have J_z8 : Hid (IsL wb2 .u8 vb2 ([] ++ K ++ List.replicate z 0)) := J9
  clear J9
  refine (tag_ok _ J_z8 J_x8 HKL.out (by omega) HKB hx H3 (Lib.hid (hL.out.below hB8))).mono ?_
  rintro e w9 ⟨rfl, hb⟩
  have hB9 : Below w.heap.size w w9 := below_thru hB8 hb
  have hs9 := hB9.size
  have x_t9 : Box w9 (w1.heap.size) (T.map (Value.int .u8)) := Box.below x_t8 hb
  have x_p9 : Box w9 (w3.heap.size) (P.map (Value.int .u8)) := Box.below x_p8 hb
  have x_q9 : Box w9 (w3.heap.size + 1) (Q.map (Value.int .u8)) := Box.below x_q8 hb
  have x_r9 : Box w9 (w6.heap.size) (P.map (Value.int .u8)) := Box.below x_r8 hb
  have x_s9 : Box w9 (w6.heap.size + 1) (Q.map (Value.int .u8)) := Box.below x_s8 hb
  have J_k9 : Hid (IsL w9 .u8 (.slice a0 K.length c0) K) := Lib.hid (IsL.below J_k8.out hb)
  have J_x9 : Hid (IsL w9 .u8 (.slice a1 xs.length c1) xs) := Lib.hid (IsL.below J_x8.out hb)
  have J_z9 : Hid (IsL w9 .u8 (vb2) ([] ++ K ++ List.replicate z 0)) := Lib.hid (IsL.below J_z8.out hb)
  clear hB8 hs8 x_t8 x_p8 x_q8 x_r8 x_s8 J_k8 J_x8 J_z8
  clear hb
  clear J_z9
  clear J_k9
  clear J_x9
  go_upto_region 15 with (refine wpList_store_box (cs := T.map (Value.int .u8)) rfl _ _ _ rfl (Box.newc (l := zero32) rfl rfl) rfl rfl ST.out NT.out (oneCell_ints _) ?_; intro W9_0 hW9_0)
  have hN : Below w9.heap.size w9 W9_0 := (hW9_0.below _ _ (by omega) ((Below.refl _ w9).alloc (Nat.le_refl _) _))
  have x_u10 : Box W9_0 (w9.heap.size) (T.map (Value.int .u8)) := hW9_0.box
  have hB10 : Below w.heap.size w W9_0 := below_thru hB9 hN
  have hs10 := hB10.size
  have x_t10 : Box W9_0 (w1.heap.size) (T.map (Value.int .u8)) := Box.below x_t9 hN
  have x_p10 : Box W9_0 (w3.heap.size) (P.map (Value.int .u8)) := Box.below x_p9 hN
  have x_q10 : Box W9_0 (w3.heap.size + 1) (Q.map (Value.int .u8)) := Box.below x_q9 hN
  have x_r10 : Box W9_0 (w6.heap.size) (P.map (Value.int .u8)) := Box.below x_r9 hN
  have x_s10 : Box W9_0 (w6.heap.size + 1) (Q.map (Value.int .u8)) := Box.below x_s9 hN
  clear hB9 hs9 x_t9 x_p9 x_q9 x_r9 x_s9
  clear hN hW9_0
  have FT : ∀ W, (Op.equalIn 10000 31 (.agg (T.map (Value.int .u8)).toArray) (.agg (T.map (Value.int .u8)).toArray)).run Tryd.prog W = .ok true W := ET.out
  have FP : ∀ W, (Op.equalIn 10000 26 (.agg (P.map (Value.int .u8)).toArray) (.agg (P.map (Value.int .u8)).toArray)).run Tryd.prog W = .ok true W := EP.out
  have FQ : ∀ W, (Op.equalIn 10000 26 (.agg (Q.map (Value.int .u8)).toArray) (.agg (Q.map (Value.int .u8)).toArray)).run Tryd.prog W = .ok true W := EQ.out
  go_wp2_with (first
    | (refine wpList_load_boxw rfl _ _ rfl x_p10 rfl Tryd.underlying26 rfl SP.out ?_)
    | (refine wpList_load_boxw rfl _ _ rfl x_r10 rfl Tryd.underlying26 rfl SP.out ?_)
    | (refine wpList_load_boxw rfl _ _ rfl x_q10 rfl Tryd.underlying26 rfl SQ.out ?_)
    | (refine wpList_load_boxw rfl _ _ rfl x_s10 rfl Tryd.underlying26 rfl SQ.out ?_)
    | (refine wpList_load_boxw rfl _ _ rfl x_u10 rfl Tryd.underlying31 rfl ST.out ?_)
    | (refine wpList_load_boxw rfl _ _ rfl x_t10 rfl Tryd.underlying31 rfl ST.out ?_))
  refine (alive6_tt _ (Lib.hid (hL.out.below hB10))).mono ?_
  rintro e wl ⟨rfl, hb⟩
  have hBl := below_thru hB10 hb
  go_wp2_with fail
  go_returns
  exact ⟨rfl, hBl⟩

theorem keys6_any {a0 a1 : Option Addr} {c0 c1 : Nat} {K xs : List Int} {n : Int} {w : World} (i0 : IsL w .u8 (.slice a0 K.length c0) K) (i1 : IsL w .u8 (.slice a1 xs.length c1) xs) (hk : bytesL K) (hx : bytesL xs) (hL : LaidS w) :
    Calls Tryd.prog 6 #[.slice a0 K.length c0, .int .i64 n, .slice a1 xs.length c1] w fun e w' => e = .returned (.bool true) ∧ Below w.heap.size w w' := by
  have m0 := i0.room
  have m1 := i1.room
  by_cases h : 200 < K.length ∨ 1000 < xs.length ∨ n < 0 ∨ 64 < n
  · exact keys6_long w h (by omega) (by omega) (Lib.hid hL)
  · obtain ⟨z, rfl⟩ := Int.eq_ofNat_of_zero_le (show 0 ≤ n by omega)
    by_cases h64 : 64 < K.length
    · exact keys6_big w (by omega) (by omega) h64 (by omega) (Lib.hid i0) (Lib.hid i1) (Lib.hid hk) (Lib.hid hx) (Lib.hid hL)
    · by_cases hov : 64 < K.length + z
      · exact keys6_past w (by omega) (by omega) (by omega) hov (Lib.hid i0) (Lib.hid i1) (Lib.hid hk) (Lib.hid hx) (Lib.hid hL)
      · exact keys6_main w (by omega) (by omega) (by omega) (Lib.hid i0) (Lib.hid i1) (Lib.hid hk) (Lib.hid hx) (Lib.hid hL)

end Go.Proofs.YtfobjdkpdeiidaaDoor
