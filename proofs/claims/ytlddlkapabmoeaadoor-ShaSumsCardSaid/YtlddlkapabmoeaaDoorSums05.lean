/-
  ShaSums, walked: it returns true.
-/
import Derived.Test.YtlddlkapabmoeaaDoorRf05E
namespace Go.Proofs.YtlddlkapabmoeaaDoor
open Go.RowKit

set_option maxRecDepth 100000 in
set_option maxHeartbeats 800000 in
theorem sums5_long {T : W8} {n : Int} {a0 : Option Addr} {c0 : Nat} {xs : List Int} (w : World) (q0 : 3000 < xs.length) (m0 : xs.length ≤ 9223372036854775807) :
    Calls Tryd.prog 4 #[.slice a0 xs.length c0, .int .i64 n, .agg (hv T).toArray] w fun e w' => e = .returned (.bool true) ∧ Below w.heap.size w w' := by
  obtain ⟨V, hV⟩ : ∃ V, V = hv T := ⟨_, rfl⟩
  rw [← hV]
  clear hV
  go_enter Tryd.func4, Tryd.ntmps4
  go_wp2_with fail
  go_returns
  exact ⟨rfl, (Below.refl _ _).alloc (Nat.le_refl _) _⟩
set_option maxRecDepth 100000 in
set_option maxHeartbeats 6400000 in
theorem sums5_main {T T1 : W8} {n c c1 : Int} {a0 : Option Addr} {c0 : Nat} {xs zs D : List Int} (w : World) (q0 : xs.length ≤ 3000) (h1 : -9223372036854775808 ≤ n) (h2 : n ≤ 9223372036854775807) (i0 : Hid (IsL w .u8 (.slice a0 xs.length c0) xs)) (b0 : Hid (bytesL xs)) (hL : Hid (LaidS w))
    (hD : Hid (shaOf xs = D)) (hP : Hid (padOut n = (zs, c))) (hK : Hid (blockOut T xs = (T1, c1))) :
    Calls Tryd.prog 4 #[.slice a0 xs.length c0, .int .i64 n, .agg (hv T).toArray] w fun e w' => e = .returned (.bool true) ∧ Below w.heap.size w w' := by
  have hDl : D.length = 32 := by rw [← hD.out]; unfold shaOf; rw [dig_len]
  have I32 := Lib.hid (show (Tryd.prog.info? 24).map (·.size) = some (D.map (Value.int .u8)).length by rw [List.length_map, hDl]; exact size32)
  have HLL := Lib.hid (show zero32.length = (D.map (Value.int .u8)).length by rw [List.length_map, hDl]; rfl)
  have hEd := Lib.hid (eq_dig D hDl)
  have m0 := i0.out.room
  have m1 := m0.2.1
  have m2 := m0.2.2
  obtain ⟨ti, hin, hz0, hz1, hz2⟩ := info8
  clear m0 hDl
  obtain ⟨V, hV⟩ : ∃ V, V = hv T := ⟨_, rfl⟩
  rw [← hV]
  have HV := Lib.hid hV
  clear hV
  go_enter Tryd.func4, Tryd.ntmps4
  go_upto_region 3 with fail
  have hx0 : Box (w.alloc (.cells V.toArray 32)) w.heap.size (hv T) := Box.newc (by rw [HV.out]) rfl
  have hB0 : Below w.heap.size w (w.alloc (.cells V.toArray 32)) := (Below.refl _ _).alloc (Nat.le_refl _) _
  obtain ⟨W1, hW1⟩ : ∃ W, w.alloc (.cells V.toArray 32) = W := ⟨_, rfl⟩
  rw [hW1] at hx0 hB0 ⊢
  clear hW1
  go_upto_region 4 with (at_builtin; refine wpList_append_built rfl _ _ 28 rfl 5 ti (.int .u8 0) 1 .u8 Tryd.underlying28 hin hz0 hz1 hz2 rfl [] xs _ (.slice a0 xs.length c0) _ _ _ rfl rfl rfl rfl rfl rfl (IsL.below i0.out hB0) (by unfold maxLen; simp <;> omega) (by simp <;> omega) ?_; intro va wa howa hba)
  have hBa : Below w.heap.size w wa := below_thru hB0 hba
  have hxa := hx0.below hba
  have JA := Lib.hid (show IsL wa .u8 va xs from IsL.own howa rfl)
  clear hB0 hba hx0 howa hin hz0 hz1 hz2
  -- a, e := sha.Sum(b)
  go_wp2_with fail
  refine (sum_ok _ (Lib.hid (IsL.below i0.out hBa)) (by omega) b0 hD (Lib.hid (hL.out.below hBa))).mono ?_
  rintro e w2 ⟨rfl, hb⟩
  have hB2 : Below w.heap.size w w2 := below_thru hBa hb
  have hx2 := hxa.below hb
  have J2 := Lib.hid (IsL.below JA.out hb)
  have hs2 := hB2.size
  have hz2 := hx2.lt
  clear hb hBa hxa JA
  go_upto_region 5 with (refine wpList_store_box (cs := D.map (Value.int .u8)) rfl _ _ _ rfl (Box.newc (l := zero32) rfl rfl) rfl rfl I32.out HLL.out (oneCell_ints _) ?_; intro W3 hW3)
  have hB3 : Below w.heap.size w W3 := hW3.below _ _ hs2 (hB2.alloc hs2 _)
  have hN3 : Below w2.heap.size w2 W3 := hW3.below _ _ (Nat.le_refl _) ((Below.refl _ w2).alloc (Nat.le_refl _) _)
  have hxd3 := hW3.box
  have hx3 := hx2.below hN3
  have J3 := Lib.hid (IsL.below J2.out hN3)
  clear hW3 hN3 hB2 hx2 J2 hs2 hz2
  -- c, f := spigotref05.Sum(b)
  go_wp2_with fail
  refine (rsum_is _ (Lib.hid (IsL.below i0.out hB3)) (by omega) b0 hD).mono ?_
  rintro e w4 ⟨rfl, hb⟩
  have hB4 : Below w.heap.size w w4 := below_thru hB3 hb
  have hx4 := hx3.below hb
  have hxd4 := hxd3.below hb
  have J4 := Lib.hid (IsL.below J3.out hb)
  have hs4 := hB4.size
  have hz4 := hxd4.lt
  clear hb hB3 hx3 hxd3 J3
  go_upto_region 6 with (refine wpList_store_box (cs := D.map (Value.int .u8)) rfl _ _ _ rfl (Box.newc (l := zero32) rfl rfl) rfl rfl I32.out HLL.out (oneCell_ints _) ?_; intro W5 hW5)
  have hB5 : Below w.heap.size w W5 := hW5.below _ _ hs4 (hB4.alloc hs4 _)
  have hN5 : Below w4.heap.size w4 W5 := hW5.below _ _ (Nat.le_refl _) ((Below.refl _ w4).alloc (Nat.le_refl _) _)
  have hxr5 := hW5.box
  have hx5 := hx4.below hN5
  have hxd5 := hxd4.below hN5
  have J5 := Lib.hid (IsL.below J4.out hN5)
  clear hW5 hN5 hB4 hx4 hxd4 J4 hs4 hz4
  -- d, g := sha.Pad(n)
  go_wp2_with fail
  refine (pad_any _ h1 h2 hP).mono ?_
  rintro e w6 ⟨vp, rfl, hp, hb⟩
  have hB6 : Below w.heap.size w w6 := below_thru hB5 hb
  have hx6 := hx5.below hb
  have hxd6 := hxd5.below hb
  have hxr6 := hxr5.below hb
  have J6 := Lib.hid (IsL.below J5.out hb)
  have P6 := Lib.hid hp
  clear hb hp hB5 hx5 hxd5 hxr5 J5
  go_upto_region 7 with fail
  -- h, i := spigotref05.Pad(n)
  go_wp2_with fail
  refine (rpad_any _ h1 h2 hP).mono ?_
  rintro e w7 ⟨vq, rfl, hp, hb⟩
  have hB7 : Below w.heap.size w w7 := below_thru hB6 hb
  have hx7 := hx6.below hb
  have hxd7 := hxd6.below hb
  have hxr7 := hxr6.below hb
  have J7 := Lib.hid (IsL.below J6.out hb)
  have P7 := Lib.hid (IsL.below P6.out hb)
  have Q7 := Lib.hid hp
  clear hb hp hB6 hx6 hxd6 hxr6 J6 P6
  go_upto_region 8 with fail
  -- j, k := sha.Block(w, b)
  go_wp2_with (refine wpList_load_box rfl _ _ rfl hx7 rfl Tryd.underlying32 rfl size8 ?_)
  refine (block_any2 _ (Lib.hid (IsL.below i0.out hB7)) b0 (Lib.hid (hL.out.below hB7)) hK).mono ?_
  rintro e w8 ⟨rfl, hb⟩
  have hB8 : Below w.heap.size w w8 := below_thru hB7 hb
  have hx8 := hx7.below hb
  have hxd8 := hxd7.below hb
  have hxr8 := hxr7.below hb
  have J8 := Lib.hid (IsL.below J7.out hb)
  have P8 := Lib.hid (IsL.below P7.out hb)
  have Q8 := Lib.hid (IsL.below Q7.out hb)
  have hs8 := hB8.size
  have hz8 := hxr8.lt
  clear hb hB7 hx7 hxd7 hxr7 J7 P7 Q7
  go_upto_region 9 with (refine wpList_store_box (cs := hv T1) rfl _ _ _ rfl (Box.newc (l := zero8) rfl rfl) rfl rfl size8 rfl (hv_one _) ?_; intro W9 hW9)
  have hB9 : Below w.heap.size w W9 := hW9.below _ _ hs8 (hB8.alloc hs8 _)
  have hN9 : Below w8.heap.size w8 W9 := hW9.below _ _ (Nat.le_refl _) ((Below.refl _ w8).alloc (Nat.le_refl _) _)
  have hxb9 := hW9.box
  have hx9 := hx8.below hN9
  have hxd9 := hxd8.below hN9
  have hxr9 := hxr8.below hN9
  have J9 := Lib.hid (IsL.below J8.out hN9)
  have P9 := Lib.hid (IsL.below P8.out hN9)
  have Q9 := Lib.hid (IsL.below Q8.out hN9)
  clear hW9 hN9 hB8 hx8 hxd8 hxr8 J8 P8 Q8 hs8 hz8
  -- l, m := spigotref05.Block(w, b)
  go_wp2_with (refine wpList_load_box rfl _ _ rfl hx9 rfl Tryd.underlying32 rfl size8 ?_)
  refine (rblock_any2 _ (Lib.hid (IsL.below i0.out hB9)) b0 hK).mono ?_
  rintro e wA ⟨rfl, hb⟩
  have hBA : Below w.heap.size w wA := below_thru hB9 hb
  have hxdA := hxd9.below hb
  have hxrA := hxr9.below hb
  have hxbA := hxb9.below hb
  have JA := Lib.hid (IsL.below J9.out hb)
  have PA := Lib.hid (IsL.below P9.out hb)
  have QA := Lib.hid (IsL.below Q9.out hb)
  have hsA := hBA.size
  have hzA := hxbA.lt
  clear hb hB9 hx9 hxd9 hxr9 hxb9 J9 P9 Q9
  go_upto_region 10 with (refine wpList_store_box (cs := hv T1) rfl _ _ _ rfl (Box.newc (l := zero8) rfl rfl) rfl rfl size8 rfl (hv_one _) ?_; intro WB hWB)
  have hBB : Below w.heap.size w WB := hWB.below _ _ hsA (hBA.alloc hsA _)
  have hNB : Below wA.heap.size wA WB := hWB.below _ _ (Nat.le_refl _) ((Below.refl _ wA).alloc (Nat.le_refl _) _)
  have hxcB := hWB.box
  have hxdB := hxdA.below hNB
  have hxrB := hxrA.below hNB
  have hxbB := hxbA.below hNB
  have JB := Lib.hid (IsL.below JA.out hNB)
  have PB := Lib.hid (IsL.below PA.out hNB)
  have QB := Lib.hid (IsL.below QA.out hNB)
  clear hWB hNB hBA hxdA hxrA hxbA JA PA QA hsA hzA
  have hEq : ∀ W, (Op.equalIn 10000 24 (.agg (D.map (Value.int .u8)).toArray) (.agg (D.map (Value.int .u8)).toArray)).run Tryd.prog W = .ok true W := hEd.out
  have hEw := eq_words T1
  go_wp2_with (first
    | (refine wpList_load_boxw rfl _ _ rfl hxdB rfl Tryd.underlying24 rfl I32.out ?_)
    | (refine wpList_load_boxw rfl _ _ rfl hxrB rfl Tryd.underlying24 rfl I32.out ?_)
    | (refine wpList_load_boxw rfl _ _ rfl hxbB rfl Tryd.underlying32 rfl size8 ?_)
    | (refine wpList_load_boxw rfl _ _ rfl hxcB rfl Tryd.underlying32 rfl size8 ?_))
  refine (sameb_tt _ PB.out QB.out).mono ?_
  rintro e wC ⟨rfl, hb⟩
  have hBC : Below w.heap.size w wC := below_thru hBB hb
  have hxbC := hxbB.below hb
  have hxcC := hxcB.below hb
  have JC := Lib.hid (IsL.below JB.out hb)
  clear hb hBB hxdB hxrB hxbB hxcB JB PB QB hEq
  go_wp2_with (first
    | (refine wpList_load_boxw rfl _ _ rfl hxbC rfl Tryd.underlying32 rfl size8 ?_)
    | (refine wpList_load_boxw rfl _ _ rfl hxcC rfl Tryd.underlying32 rfl size8 ?_))
  refine (sameb_tt _ (IsL.below i0.out hBC) JC.out).mono ?_
  rintro e wD ⟨rfl, hb⟩
  have hBD : Below w.heap.size w wD := below_thru hBC hb
  go_wp2_with fail
  go_returns
  exact ⟨rfl, hBD⟩
theorem sums5_any {T : W8} {n : Int} {a0 : Option Addr} {c0 : Nat} {xs : List Int} {w : World} (i0 : IsL w .u8 (.slice a0 xs.length c0) xs) (b0 : bytesL xs) (h1 : -9223372036854775808 ≤ n) (h2 : n ≤ 9223372036854775807) (hL : LaidS w) :
    Calls Tryd.prog 4 #[.slice a0 xs.length c0, .int .i64 n, .agg (hv T).toArray] w fun e w' => e = .returned (.bool true) ∧ Below w.heap.size w w' := by
  have m0 := i0.room
  by_cases h : 3000 < xs.length
  · exact sums5_long w h (by omega)
  · rcases hp : padOut n with ⟨zs, c⟩
    rcases hk : blockOut T xs with ⟨T1, c1⟩
    exact sums5_main w (by omega) h1 h2 (Lib.hid i0) (Lib.hid b0) (Lib.hid hL) (Lib.hid rfl) (Lib.hid hp) (Lib.hid hk)

end Go.Proofs.YtlddlkapabmoeaaDoor
