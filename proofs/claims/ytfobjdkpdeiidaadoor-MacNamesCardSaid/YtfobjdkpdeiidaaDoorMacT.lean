/-
  Package mac: the inner sum, the outer sum, the tag.
-/
import Derived.Test.YtfobjdkpdeiidaaDoorMacQ
namespace Go.Proofs.YtfobjdkpdeiidaaDoor
open Go.RowKit

set_option maxRecDepth 100000 in
set_option maxHeartbeats 1600000 in
theorem inner_many {v v2 : Value} {K : List Int} (w : World) (hi : Hid (IsL w .u8 v K)) (hl : 200 < K.length) (hk : Hid (bytesL K)) (hL : Hid (LaidS w)) :
    Calls Tryd.prog 12 #[v, v2] w fun e w' => e = .returned (.tuple #[av zeros32, .int .i64 4]) ∧ Below w.heap.size w w' := by
  obtain ⟨P, hPe⟩ : ∃ P, zeros64 = P := ⟨_, rfl⟩
  obtain ⟨Q, hQe⟩ : ∃ Q, zeros64 = Q := ⟨_, rfl⟩
  have hpl : P.length = 64 := by rw [← hPe]; rfl
  have hql : Q.length = 64 := by rw [← hQe]; rfl
  have HP := Lib.hid (show padsOut K = (P, Q, 4) by unfold padsOut; rw [if_pos hl, ← hPe, ← hQe])
  have J1 := Lib.hid (size_of64 hpl)
  have K1 := Lib.hid (len_of64 hpl)
  have J2 := Lib.hid (size_of64 hql)
  have K2 := Lib.hid (len_of64 hql)
  clear hPe hQe hpl hql
  go_enter Tryd.func12, Tryd.ntmps12
  go_wp2_with fail
  have hr : Box (w.alloc (.cells zero32.toArray 31)) w.heap.size zero32 := Box.newc rfl rfl
  refine (pads_any _ (Lib.hid (hi.out.alloc _)) hk HP (Lib.hid (hL.out.alloc _))).mono ?_
  rintro e w1 ⟨rfl, hb⟩
  have hB1 : Below w.heap.size w w1 := below_thru (by go_grown) hb
  have hr1 := Box.below hr hb
  have hs1 := hB1.size
  have hzr := hr1.lt
  clear hb hr
  go_upto_region 2 with (first
    | (refine wpList_store_box (cs := P.map (Value.int .u8)) rfl _ _ _ rfl (Box.alloc (Box.newc (l := zero64) rfl rfl) _) rfl rfl J1.out K1.out (oneCell_ints _) ?_; intro w2 hW2)
    | (refine wpList_store_box (cs := Q.map (Value.int .u8)) rfl _ _ _ rfl (hW2.past _ _ (by omega) (Box.newc (l := zero64) rfl (by simp))) rfl rfl J2.out K2.out (oneCell_ints _) ?_; intro w3 hW3))
  have hB3 : Below w.heap.size w w3 := hW3.below _ _ (by omega) (hW2.below _ _ hs1 ((hB1.alloc hs1 _).alloc (by simp; omega) _))
  have hr3 : Box w3 w.heap.size zero32 := hW3.past _ _ (by omega) (hW2.past _ _ (by omega) (Box.alloc (Box.alloc hr1 _) _))
  have hp3 : Box w3 w1.heap.size (P.map (Value.int .u8)) := hW3.past _ _ (by omega) hW2.box
  have hq3 := hW3.box
  clear hW2 hW3 hB1 hr1
  go_wp2_with (refine wpList_store_box (cs := zero32) rfl _ _ _ rfl hr3 rfl rfl size32 rfl (oneCell_ints _) ?_; intro W3 hW3)
  exact bodyPost_ret (v := .tuple #[av zeros32, .int .i64 4]) (results_box2 Tryd.results12 hW3.box rfl rfl Tryd.underlying31 rfl size32) rfl ⟨rfl, hW3.below _ _ (by omega) hB3⟩

set_option maxRecDepth 100000 in
set_option maxHeartbeats 1600000 in
theorem inner_ok {v v2 : Value} {K xs D : List Int} {x : Int} (w : World) (hi : Hid (IsL w .u8 v K)) (h2 : Hid (IsL w .u8 v2 xs)) (hl : K.length ≤ 200) (hk : Hid (bytesL K)) (hx : Hid (bytesL xs)) (hD : Hid (behindOut (padI K) xs = (D, x))) (hL : Hid (LaidS w)) :
    Calls Tryd.prog 12 #[v, v2] w fun e w' => e = .returned (.tuple #[av D, .int .i64 x]) ∧ Below w.heap.size w w' := by
  obtain ⟨P, hPe⟩ : ∃ P, padI K = P := ⟨_, rfl⟩
  obtain ⟨Q, hQe⟩ : ∃ Q, padO K = Q := ⟨_, rfl⟩
  have hpl : P.length = 64 := by rw [← hPe, padI_len]
  have hql : Q.length = 64 := by rw [← hQe, padO_len]
  have HP := Lib.hid (show padsOut K = (P, Q, 0) by unfold padsOut; rw [if_neg (by omega), hPe, hQe])
  have J1 := Lib.hid (size_of64 hpl)
  have K1 := Lib.hid (len_of64 hpl)
  have J2 := Lib.hid (size_of64 hql)
  have K2 := Lib.hid (len_of64 hql)
  have HXB := Lib.hid (show bytesL P by rw [← hPe]; exact padI_bytes hk.out)
  have HD := Lib.hid (show behindOut P xs = (D, x) by rw [← hPe]; exact hD.out)
  have hDl := behindOut_len P xs
  rw [HD.out] at hDl
  have I32 := Lib.hid (size_dig hDl)
  have H32 := Lib.hid (len_dig hDl)
  have HXL := Lib.hid hpl
  clear hPe hQe hpl hql hDl hD
  go_enter Tryd.func12, Tryd.ntmps12
  go_wp2_with fail
  have hr : Box (w.alloc (.cells zero32.toArray 31)) w.heap.size zero32 := Box.newc rfl rfl
  refine (pads_any _ (Lib.hid (hi.out.alloc _)) hk HP (Lib.hid (hL.out.alloc _))).mono ?_
  rintro e w1 ⟨rfl, hb⟩
  have hB1 : Below w.heap.size w w1 := below_thru (by go_grown) hb
  have hr1 := Box.below hr hb
  have hs1 := hB1.size
  have hzr := hr1.lt
  clear hb hr
  go_upto_region 2 with (first
    | (refine wpList_store_box (cs := P.map (Value.int .u8)) rfl _ _ _ rfl (Box.alloc (Box.newc (l := zero64) rfl rfl) _) rfl rfl J1.out K1.out (oneCell_ints _) ?_; intro w2 hW2)
    | (refine wpList_store_box (cs := Q.map (Value.int .u8)) rfl _ _ _ rfl (hW2.past _ _ (by omega) (Box.newc (l := zero64) rfl (by simp))) rfl rfl J2.out K2.out (oneCell_ints _) ?_; intro w3 hW3))
  have hB3 : Below w.heap.size w w3 := hW3.below _ _ (by omega) (hW2.below _ _ hs1 ((hB1.alloc hs1 _).alloc (by simp; omega) _))
  have hr3 : Box w3 w.heap.size zero32 := hW3.past _ _ (by omega) (hW2.past _ _ (by omega) (Box.alloc (Box.alloc hr1 _) _))
  have hp3 : Box w3 w1.heap.size (P.map (Value.int .u8)) := hW3.past _ _ (by omega) hW2.box
  have hq3 := hW3.box
  clear hW2 hW3 hB1 hr1
  go_wp2_with (refine wpList_load_box rfl _ _ rfl hp3 rfl Tryd.underlying26 rfl J1.out ?_)
  refine (behind_any _ (Lib.hid (h2.out.below hB3)) hx HXL.out HXB HD (Lib.hid (hL.out.below hB3))).mono ?_
  rintro e w4 ⟨rfl, hb⟩
  have hB4 := below_thru hB3 hb
  have hr4 := hr3.below hb
  clear hb hB3 hr3 hp3 hq3
  go_wp2_with (refine wpList_store_box (cs := D.map (Value.int .u8)) rfl _ _ _ rfl hr4 rfl rfl I32.out H32.out (oneCell_ints _) ?_; intro W3 hW3)
  exact bodyPost_ret (v := .tuple #[av D, .int .i64 x]) (results_box2 Tryd.results12 hW3.box rfl rfl Tryd.underlying31 rfl I32.out) rfl ⟨rfl, hW3.below _ _ (by omega) hB4⟩

theorem inner_any {v v2 : Value} {K xs D : List Int} {x : Int} (w : World) (hi : Hid (IsL w .u8 v K)) (h2 : Hid (IsL w .u8 v2 xs)) (hk : Hid (bytesL K)) (hx : Hid (bytesL xs)) (hD : Hid (innerOut K xs = (D, x))) (hL : Hid (LaidS w)) :
    Calls Tryd.prog 12 #[v, v2] w fun e w' => e = .returned (.tuple #[av D, .int .i64 x]) ∧ Below w.heap.size w w' := by
  have h := hD.out
  unfold innerOut at h
  by_cases q : 200 < K.length
  · rw [if_pos q] at h
    injection h with e1 e2
    subst e1 e2
    exact inner_many w hi q hk hL
  · rw [if_neg q] at h
    exact inner_ok w hi h2 (by omega) hk hx (Lib.hid h) hL

set_option maxRecDepth 100000 in
set_option maxHeartbeats 1600000 in
theorem outer_many {v : Value} {K d : List Int} (w : World) (hi : Hid (IsL w .u8 v K)) (hl : 200 < K.length) (hk : Hid (bytesL K)) (hL : Hid (LaidS w)) :
    Calls Tryd.prog 13 #[v, av d] w fun e w' => e = .returned (.tuple #[av zeros32, .int .i64 4]) ∧ Below w.heap.size w w' := by
  obtain ⟨A, hA⟩ : ∃ A, (d.map (Value.int .u8)).toArray = A := ⟨_, rfl⟩
  have HA := Lib.hid hA
  rw [show av d = .agg A by unfold av; rw [hA]]
  clear hA
  obtain ⟨P, hPe⟩ : ∃ P, zeros64 = P := ⟨_, rfl⟩
  obtain ⟨Q, hQe⟩ : ∃ Q, zeros64 = Q := ⟨_, rfl⟩
  have hpl : P.length = 64 := by rw [← hPe]; rfl
  have hql : Q.length = 64 := by rw [← hQe]; rfl
  have HP := Lib.hid (show padsOut K = (P, Q, 4) by unfold padsOut; rw [if_pos hl, ← hPe, ← hQe])
  have J1 := Lib.hid (size_of64 hpl)
  have K1 := Lib.hid (len_of64 hpl)
  have J2 := Lib.hid (size_of64 hql)
  have K2 := Lib.hid (len_of64 hql)
  clear hPe hQe hpl hql
  go_enter Tryd.func13, Tryd.ntmps13
  go_wp2_with fail
  have hr : Box ((w.alloc (.cells A 31)).alloc (.cells zero32.toArray 31)) (w.heap.size + 1) zero32 := Box.newc rfl (by simp)
  have hd : Box ((w.alloc (.cells A 31)).alloc (.cells zero32.toArray 31)) w.heap.size (d.map (Value.int .u8)) := Box.alloc (Box.newc HA.out.symm rfl) _
  refine (pads_any _ (Lib.hid ((hi.out.alloc _).alloc _)) hk HP (Lib.hid ((hL.out.alloc _).alloc _))).mono ?_
  rintro e w1 ⟨rfl, hb⟩
  have hB1 : Below w.heap.size w w1 := below_thru (by go_grown) hb
  have hr1 := Box.below hr hb
  have hd1 := Box.below hd hb
  clear hd
  have hs1 := hB1.size
  have hzr := hr1.lt
  clear hb hr
  go_upto_region 2 with (first
    | (refine wpList_store_box (cs := P.map (Value.int .u8)) rfl _ _ _ rfl (Box.alloc (Box.newc (l := zero64) rfl rfl) _) rfl rfl J1.out K1.out (oneCell_ints _) ?_; intro w2 hW2)
    | (refine wpList_store_box (cs := Q.map (Value.int .u8)) rfl _ _ _ rfl (hW2.past _ _ (by omega) (Box.newc (l := zero64) rfl (by simp))) rfl rfl J2.out K2.out (oneCell_ints _) ?_; intro w3 hW3))
  have hB3 : Below w.heap.size w w3 := hW3.below _ _ (by omega) (hW2.below _ _ hs1 ((hB1.alloc hs1 _).alloc (by simp; omega) _))
  have hr3 : Box w3 (w.heap.size + 1) zero32 := hW3.past _ _ (by omega) (hW2.past _ _ (by omega) (Box.alloc (Box.alloc hr1 _) _))
  have hp3 : Box w3 w1.heap.size (P.map (Value.int .u8)) := hW3.past _ _ (by omega) hW2.box
  have hq3 := hW3.box
  have hd3 : Box w3 w.heap.size (d.map (Value.int .u8)) := hW3.past _ _ (by omega) (hW2.past _ _ (by omega) (Box.alloc (Box.alloc hd1 _) _))
  clear hW2 hW3 hB1 hr1 hd1
  go_wp2_with (refine wpList_store_box (cs := zero32) rfl _ _ _ rfl hr3 rfl rfl size32 rfl (oneCell_ints _) ?_; intro W3 hW3)
  exact bodyPost_ret (v := .tuple #[av zeros32, .int .i64 4]) (results_box2 Tryd.results13 hW3.box rfl rfl Tryd.underlying31 rfl size32) rfl ⟨rfl, hW3.below _ _ (by omega) hB3⟩

set_option maxRecDepth 100000 in
set_option maxHeartbeats 1600000 in
theorem outer_ok {v : Value} {K d D : List Int} {x : Int} (w : World) (hi : Hid (IsL w .u8 v K)) (hl : K.length ≤ 200) (hk : Hid (bytesL K)) (hdl : d.length = 32) (hx : Hid (bytesL d)) (hD : Hid (behindOut (padO K) d = (D, x))) (hL : Hid (LaidS w)) :
    Calls Tryd.prog 13 #[v, av d] w fun e w' => e = .returned (.tuple #[av D, .int .i64 x]) ∧ Below w.heap.size w w' := by
  obtain ⟨A, hA⟩ : ∃ A, (d.map (Value.int .u8)).toArray = A := ⟨_, rfl⟩
  have HA := Lib.hid hA
  rw [show av d = .agg A by unfold av; rw [hA]]
  clear hA
  obtain ⟨P, hPe⟩ : ∃ P, padI K = P := ⟨_, rfl⟩
  obtain ⟨Q, hQe⟩ : ∃ Q, padO K = Q := ⟨_, rfl⟩
  have hpl : P.length = 64 := by rw [← hPe, padI_len]
  have hql : Q.length = 64 := by rw [← hQe, padO_len]
  have HP := Lib.hid (show padsOut K = (P, Q, 0) by unfold padsOut; rw [if_neg (by omega), hPe, hQe])
  have J1 := Lib.hid (size_of64 hpl)
  have K1 := Lib.hid (len_of64 hpl)
  have J2 := Lib.hid (size_of64 hql)
  have K2 := Lib.hid (len_of64 hql)
  have HXB := Lib.hid (show bytesL Q by rw [← hQe]; exact padO_bytes hk.out)
  have HD := Lib.hid (show behindOut Q d = (D, x) by rw [← hQe]; exact hD.out)
  have hDl := behindOut_len Q d
  rw [HD.out] at hDl
  have I32 := Lib.hid (size_dig hDl)
  have H32 := Lib.hid (len_dig hDl)
  have HXL := Lib.hid hql
  have HdL := Lib.hid hdl
  clear hdl
  clear hPe hQe hpl hql hDl hD
  go_enter Tryd.func13, Tryd.ntmps13
  go_wp2_with fail
  have hr : Box ((w.alloc (.cells A 31)).alloc (.cells zero32.toArray 31)) (w.heap.size + 1) zero32 := Box.newc rfl (by simp)
  have hd : Box ((w.alloc (.cells A 31)).alloc (.cells zero32.toArray 31)) w.heap.size (d.map (Value.int .u8)) := Box.alloc (Box.newc HA.out.symm rfl) _
  refine (pads_any _ (Lib.hid ((hi.out.alloc _).alloc _)) hk HP (Lib.hid ((hL.out.alloc _).alloc _))).mono ?_
  rintro e w1 ⟨rfl, hb⟩
  have hB1 : Below w.heap.size w w1 := below_thru (by go_grown) hb
  have hr1 := Box.below hr hb
  have hd1 := Box.below hd hb
  clear hd
  have hs1 := hB1.size
  have hzr := hr1.lt
  clear hb hr
  go_upto_region 2 with (first
    | (refine wpList_store_box (cs := P.map (Value.int .u8)) rfl _ _ _ rfl (Box.alloc (Box.newc (l := zero64) rfl rfl) _) rfl rfl J1.out K1.out (oneCell_ints _) ?_; intro w2 hW2)
    | (refine wpList_store_box (cs := Q.map (Value.int .u8)) rfl _ _ _ rfl (hW2.past _ _ (by omega) (Box.newc (l := zero64) rfl (by simp))) rfl rfl J2.out K2.out (oneCell_ints _) ?_; intro w3 hW3))
  have hB3 : Below w.heap.size w w3 := hW3.below _ _ (by omega) (hW2.below _ _ hs1 ((hB1.alloc hs1 _).alloc (by simp; omega) _))
  have hr3 : Box w3 (w.heap.size + 1) zero32 := hW3.past _ _ (by omega) (hW2.past _ _ (by omega) (Box.alloc (Box.alloc hr1 _) _))
  have hp3 : Box w3 w1.heap.size (P.map (Value.int .u8)) := hW3.past _ _ (by omega) hW2.box
  have hq3 := hW3.box
  have hd3 : Box w3 w.heap.size (d.map (Value.int .u8)) := hW3.past _ _ (by omega) (hW2.past _ _ (by omega) (Box.alloc (Box.alloc hd1 _) _))
  clear hW2 hW3 hB1 hr1 hd1
  have hsz3 := hq3.lt
  go_upto_region 4 with fail
  refine wp_region_held_drew (S := fun w' => Box w' (w1.heap.size + 1) (Q.map (Value.int .u8))) (by kernel_rfl) (hq3.drew) (fun _ => ?_)
  refine F_drew (F := fun W => wpAnyH _ _ _ _ _ _ _ _ W) ?_
  intro W0 hb0
  have hq0 := hq3.below hb0
  have hd0 := hd3.below hb0
  have hr0 := hr3.below hb0
  have hB0 := below_thru hB3 hb0
  clear hq3 hd3 hr3 hB3 hb0 hp3
  refine takeH 1 20 (v := ?va1_1) rfl (by rfl) (by kernel_rfl) (by kernel_rfl) (by kernel_rfl) (fun _ _ _ h => h) (Or.inl ⟨by rfl, ?_⟩) (hq0) ?_
  rotate_left
  · intro wq hSq
    go_simp
    exact rfl
  try simp only [Act.put, List.setIfInBounds_toArray, List.set_cons_zero, List.set_cons_succ]
  refine takeH 0 19 (v := .agg (Q.map (Value.int .u8)).toArray) rfl (by rfl) (by kernel_rfl) (by kernel_rfl) (by kernel_rfl) (fun _ _ _ h => h) (yieldsIf_load_mid (by rfl) _ _ rfl _ 0 rfl (Q.map (Value.int .u8)) _ (fun wq hq => Box.range hq) Tryd.underlying26 rfl J2.out) (hq0) ?_
  try simp only [Act.put, List.setIfInBounds_toArray, List.set_cons_zero, List.set_cons_succ]
  refine wpAnyH_ready (rs := [2]) (by kernel_rfl) (by simp) (AllReadyH.cons rfl (fun K hK => ?_) AllReadyH.nil)
  go_simp
  refine (behind_any _ (Lib.hid (IsL.box 32 HdL.out hd0 (by omega))) hx HXL.out HXB HD (Lib.hid (hL.out.below hB0))).mono ?_
  rintro e W2 ⟨rfl, hb2⟩
  have hx2 := Box.below hq0 hb2; have hd2 := Box.below hd0 hb2; have hr2 := Box.below hr0 hb2; have hB2 := below_thru hB0 hb2
  refine hK.out _ _ (hx2) (fun _ => ?_); clear hK K
  refine takeH 3 22 (v := ?va3_3) rfl (by rfl) (by kernel_rfl) (by kernel_rfl) (by kernel_rfl) (fun _ _ _ h => h) (Or.inl ⟨by rfl, ?_⟩) (hx2) ?_
  rotate_left
  · intro wq hSq
    go_simp
    exact rfl
  try simp only [Act.put, List.setIfInBounds_toArray, List.set_cons_zero, List.set_cons_succ]
  refine takeH 4 23 (v := ?va4_4) rfl (by rfl) (by kernel_rfl) (by kernel_rfl) (by kernel_rfl) (fun _ _ _ h => h) (Or.inl ⟨by rfl, ?_⟩) (hx2) ?_
  rotate_left
  · intro wq hSq
    go_simp
    exact rfl
  try simp only [Act.put, List.setIfInBounds_toArray, List.set_cons_zero, List.set_cons_succ]
  refine wpAnyH_ready (rs := [5]) (by kernel_rfl) (by simp) (AllReadyH.cons rfl (fun K hK => ?_) AllReadyH.nil)
  refine step_store_box0 (cs := D.map (Value.int .u8)) rfl rfl _ _ _ rfl hr2 rfl rfl I32.out H32.out (oneCell_ints _) ?_
  intro W5 hW5
  have hx5 := hW5.past _ _ (by omega) hx2; have hr5 := hW5.box; have hB5 := hW5.below _ _ (by omega) hB2
  refine hK.out _ _ (hx5) (fun _ => ?_); clear hK K
  refine takeH 6 5 (v := ?va6_6) rfl (by rfl) (by kernel_rfl) (by kernel_rfl) (by kernel_rfl) (fun _ _ _ h => h) (Or.inl ⟨by rfl, ?_⟩) (hx5) ?_
  rotate_left
  · intro wq hSq
    go_simp
    exact rfl
  try simp only [Act.put, List.setIfInBounds_toArray, List.set_cons_zero, List.set_cons_succ]
  refine wpAnyH_done (by kernel_rfl) ?_ _
  go_wp2_with fail
  exact bodyPost_ret (v := .tuple #[av D, .int .i64 x]) (results_box2 Tryd.results13 hr5 rfl rfl Tryd.underlying31 rfl I32.out) rfl ⟨rfl, hB5⟩

theorem outer_any {v : Value} {K d D : List Int} {x : Int} (w : World) (hi : Hid (IsL w .u8 v K)) (hk : Hid (bytesL K)) (hdl : d.length = 32) (hx : Hid (bytesL d)) (hD : Hid (outerOut K d = (D, x))) (hL : Hid (LaidS w)) :
    Calls Tryd.prog 13 #[v, av d] w fun e w' => e = .returned (.tuple #[av D, .int .i64 x]) ∧ Below w.heap.size w w' := by
  have h := hD.out
  unfold outerOut at h
  by_cases q : 200 < K.length
  · rw [if_pos q] at h
    injection h with e1 e2
    subst e1 e2
    exact outer_many w hi q hk hL
  · rw [if_neg q] at h
    exact outer_ok w hi (by omega) hk hdl hx (Lib.hid h) hL

set_option maxRecDepth 100000 in
set_option maxHeartbeats 1600000 in
theorem tag_bad {v v2 : Value} {K xs E : List Int} (w : World) (hi : Hid (IsL w .u8 v K)) (h2 : Hid (IsL w .u8 v2 xs)) (hk : Hid (bytesL K)) (hx : Hid (bytesL xs)) (hI : Hid (innerOut K xs = (E, 4))) (hL : Hid (LaidS w)) :
    Calls Tryd.prog 11 #[v, v2] w fun e w' => e = .returned (.tuple #[av zeros32, .int .i64 4]) ∧ Below w.heap.size w w' := by
  have hel : E.length = 32 := by rw [show E = (innerOut K xs).1 by rw [hI.out]]; exact innerOut_len _ _
  have IE := Lib.hid (size_dig hel)
  have HE := Lib.hid (len_dig hel)
  go_enter Tryd.func11, Tryd.ntmps11
  go_wp2_with fail
  refine (inner_any _ (Lib.hid (hi.out.alloc _)) (Lib.hid (h2.out.alloc _)) hk hx hI (Lib.hid (hL.out.alloc _))).mono ?_
  rintro e w1 ⟨rfl, hb⟩
  have hB1 : Below w.heap.size w w1 := below_thru (by go_grown) hb
  have hr1 : Box w1 w.heap.size zero32 := Box.below (Box.newc rfl rfl) hb
  have hs1 := hB1.size
  have hzr := hr1.lt
  clear hb
  go_upto_region 2 with (refine wpList_store_box (cs := E.map (Value.int .u8)) rfl _ _ _ rfl (Box.newc (l := zero32) rfl rfl) rfl rfl IE.out HE.out (oneCell_ints _) ?_; intro w2 hW)
  have hB2 : Below w.heap.size w w2 := hW.below _ _ hs1 (hB1.alloc hs1 _)
  have hr2 : Box w2 w.heap.size zero32 := hW.past _ _ (by omega) (hr1.alloc _)
  have he2 := hW.box
  clear hW hB1 hr1
  go_wp2_with (refine wpList_store_box (cs := zero32) rfl _ _ _ rfl hr2 rfl rfl size32 rfl (oneCell_ints _) ?_; intro W3 hW3)
  exact bodyPost_ret (v := .tuple #[av zeros32, .int .i64 4]) (results_box2 Tryd.results11 hW3.box rfl rfl Tryd.underlying31 rfl size32) rfl ⟨rfl, hW3.below _ _ (by omega) hB2⟩

set_option maxRecDepth 100000 in
set_option maxHeartbeats 1600000 in
theorem tag_good {v v2 : Value} {K xs E D : List Int} (w : World) (hi : Hid (IsL w .u8 v K)) (h2 : Hid (IsL w .u8 v2 xs)) (hk : Hid (bytesL K)) (hx : Hid (bytesL xs)) (hI : Hid (innerOut K xs = (E, 0))) (hO : Hid (outerOut K E = (D, 0))) (hL : Hid (LaidS w)) :
    Calls Tryd.prog 11 #[v, v2] w fun e w' => e = .returned (.tuple #[av D, .int .i64 0]) ∧ Below w.heap.size w w' := by
  have hel : E.length = 32 := by rw [show E = (innerOut K xs).1 by rw [hI.out]]; exact innerOut_len _ _
  have heb : bytesL E := by rw [show E = (innerOut K xs).1 by rw [hI.out]]; exact innerOut_bytes _ _
  have hdl : D.length = 32 := by rw [show D = (outerOut K E).1 by rw [hO.out]]; exact outerOut_len _ _
  have I32 := Lib.hid (size_dig hdl)
  have H32 := Lib.hid (len_dig hdl)
  have HEL := Lib.hid hel
  have HEB := Lib.hid heb
  clear hdl heb
  have IE := Lib.hid (size_dig hel)
  have HE := Lib.hid (len_dig hel)
  go_enter Tryd.func11, Tryd.ntmps11
  go_wp2_with fail
  refine (inner_any _ (Lib.hid (hi.out.alloc _)) (Lib.hid (h2.out.alloc _)) hk hx hI (Lib.hid (hL.out.alloc _))).mono ?_
  rintro e w1 ⟨rfl, hb⟩
  have hB1 : Below w.heap.size w w1 := below_thru (by go_grown) hb
  have hr1 : Box w1 w.heap.size zero32 := Box.below (Box.newc rfl rfl) hb
  have hs1 := hB1.size
  have hzr := hr1.lt
  clear hb
  go_upto_region 2 with (refine wpList_store_box (cs := E.map (Value.int .u8)) rfl _ _ _ rfl (Box.newc (l := zero32) rfl rfl) rfl rfl IE.out HE.out (oneCell_ints _) ?_; intro w2 hW)
  have hB2 : Below w.heap.size w w2 := hW.below _ _ hs1 (hB1.alloc hs1 _)
  have hr2 : Box w2 w.heap.size zero32 := hW.past _ _ (by omega) (hr1.alloc _)
  have he2 := hW.box
  clear hW hB1 hr1
  go_wp2_with (refine wpList_load_box rfl _ _ rfl he2 rfl Tryd.underlying31 rfl IE.out ?_)
  refine (outer_any (d := E) _ (Lib.hid (hi.out.below hB2)) hk HEL.out HEB hO (Lib.hid (hL.out.below hB2))).mono ?_
  rintro e w4 ⟨rfl, hb⟩
  have hB4 := below_thru hB2 hb
  have hr4 := hr2.below hb
  clear hb hB2 hr2 he2
  go_wp2_with (refine wpList_store_box (cs := D.map (Value.int .u8)) rfl _ _ _ rfl hr4 rfl rfl I32.out H32.out (oneCell_ints _) ?_; intro W3 hW3)
  exact bodyPost_ret (v := .tuple #[av D, .int .i64 0]) (results_box2 Tryd.results11 hW3.box rfl rfl Tryd.underlying31 rfl I32.out) rfl ⟨rfl, hW3.below _ _ (by omega) hB4⟩

theorem tag_any {v v2 : Value} {K xs D : List Int} {x : Int} (w : World) (hi : Hid (IsL w .u8 v K)) (h2 : Hid (IsL w .u8 v2 xs)) (hk : Hid (bytesL K)) (hx : Hid (bytesL xs)) (hD : Hid (sumOut K xs = (D, x))) (hL : Hid (LaidS w)) :
    Calls Tryd.prog 11 #[v, v2] w fun e w' => e = .returned (.tuple #[av D, .int .i64 x]) ∧ Below w.heap.size w w' := by
  have h := hD.out
  unfold sumOut at h
  by_cases q : 200 < K.length ∨ 127936 < xs.length
  · rw [if_pos q] at h
    injection h with e1 e2
    subst e1 e2
    refine tag_bad (E := zeros32) w hi h2 hk hx (Lib.hid ?_) hL
    unfold innerOut behindOut
    by_cases q1 : 200 < K.length
    · rw [if_pos q1]
    · rw [if_neg q1, if_pos (by omega)]
  · rw [if_neg q] at h
    injection h with e1 e2
    subst e2
    refine tag_good (E := innerL K xs) w hi h2 hk hx (Lib.hid ?_) (Lib.hid ?_) hL
    · unfold innerOut behindOut
      rw [if_neg (by omega), if_neg (by omega)]
      rfl
    · unfold outerOut behindOut
      rw [if_neg (by omega), if_neg (by unfold innerL; rw [shaOf_len]; omega), ← e1]
      rfl

end Go.Proofs.YtfobjdkpdeiidaaDoor
