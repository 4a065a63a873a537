/-
  The reference of layer 6: the inner and the outer sum, the tag.
-/
import Derived.Test.YtfobjdkpdeiidaaDoorMRefB
namespace Go.Proofs.YtfobjdkpdeiidaaDoor
open Go.RowKit

theorem F_world2 {F J J2 J3 : World → Prop} {w : World} (h1 : J w) (h2 : J2 w) (h3 : J3 w) (h : ∀ W, J W → J2 W → J3 W → F W) : F w := h _ h1 h2 h3

set_option maxRecDepth 100000 in
set_option maxHeartbeats 1600000 in
theorem rtag_is {v v2 : Value} {K xs D : List Int} (w : World) (hi : Hid (IsL w .u8 v K)) (h2 : Hid (IsL w .u8 v2 xs)) (hl : K.length ≤ 200) (hl2 : xs.length ≤ 127936) (hk : Hid (bytesL K)) (hx : Hid (bytesL xs)) (hD : Hid (tagL K xs = D)) :
    Calls Tryd.prog 29 #[v, v2] w fun e w' => e = .returned (av D) ∧ Below w.heap.size w w' := by
  obtain ⟨ti, hin, hz0, hz1, hz2⟩ := info8
  obtain ⟨P, hPe⟩ : ∃ P, padI K = P := ⟨_, rfl⟩
  have HP := Lib.hid (show mixL 54 (blk K) = P from hPe)
  have HPL := Lib.hid (show P.length = 64 by rw [← hPe, padI_len])
  have HPB := Lib.hid (show bytesL (P ++ xs) by rw [← hPe]; exact (padI_bytes hk.out).append hx.out)
  have HSL := Lib.hid (show (P ++ xs).length ≤ 128000 by rw [List.length_append, ← hPe, padI_len]; omega)
  obtain ⟨E, hE⟩ : ∃ E, innerL K xs = E := ⟨_, rfl⟩
  have HE := Lib.hid (show shaOf (P ++ xs) = E by rw [← hE, ← hPe]; rfl)
  have hdl : E.length = 32 := by rw [← hE]; exact shaOf_len _
  have hdb : bytesL E := by rw [← hE]; exact shaOf_bytes _
  obtain ⟨Q, hQe⟩ : ∃ Q, padO K = Q := ⟨_, rfl⟩
  have HQ := Lib.hid (show mixL 92 (blk K) = Q from hQe)
  have HQL := Lib.hid (show Q.length = 64 by rw [← hQe, padO_len])
  have HQB := Lib.hid (show bytesL (Q ++ E) by rw [← hQe]; exact (padO_bytes hk.out).append hdb)
  have HQS := Lib.hid (show (Q ++ E).length ≤ 128000 by rw [List.length_append, ← hQe, padO_len, hdl]; omega)
  have HD := Lib.hid (show shaOf (Q ++ E) = D by rw [← hD.out, ← hQe, ← hE]; rfl)
  have hDl : D.length = 32 := by rw [← HD.out]; exact shaOf_len _
  have I32 := Lib.hid (size_dig hDl)
  have H32 := Lib.hid (len_dig hDl)
  have IE := Lib.hid (size_dig hdl)
  have H3E := Lib.hid (len_dig hdl)
  have HDL := Lib.hid hdl
  clear hPe hQe hE hdl hdb hDl hD
  go_enter Tryd.func29, Tryd.ntmps29
  go_wp2_with fail
  refine (rmixed_is 54 _ (Lib.hid (IsL.alloc hi.out _)) (by omega) hk HP).mono ?_
  rintro e w1 ⟨u1, rfl, ho, hb⟩
  have hB1 : Below w.heap.size w w1 := below_thru (by go_grown) hb
  have hr1 : Box w1 w.heap.size zero32 := Box.below (Box.newc rfl rfl) hb
  have ho1 := owns_mono (B' := w.heap.size + 1) ho (by simp)
  have hs1 := hB1.size
  clear ho hb
  go_wp2_with (at_builtin; refine wpList_append_onto rfl _ _ 23 rfl (w.heap.size + 1) 5 ti (.int .u8 0) 1 .u8 Tryd.underlying23 hin hz0 hz1 hz2 rfl u1 P xs _ rfl rfl ho1 (h2.out.below hB1) (by have := HPL.out; unfold maxLen; omega) (by have := HPL.out; omega) hr1.lt ?_; intro va w2 howa hba)
  have hB2 : Below w.heap.size w w2 := hB1.trans (hba.mono (by omega))
  have hr2 : Box w2 w.heap.size zero32 := hr1.keepB hba (by omega)
  have HI := Lib.hid (IsL.own howa rfl)
  clear howa hba hB1 ho1 hr1
  refine (rof_is _ HI HSL.out HPB HE).mono ?_
  rintro e w3 ⟨rfl, hb⟩
  have hB3 := below_thru hB2 hb
  have hr3 := hr2.below hb
  have hs3 := hB3.size
  have hz3 := hr3.lt
  clear hb hB2 hr2 HI
  go_upto_region 2 with (refine wpList_store_box (cs := E.map (Value.int .u8)) rfl _ _ _ rfl (Box.newc (l := zero32) rfl rfl) rfl rfl IE.out H3E.out (oneCell_ints _) ?_; intro w4 hW)
  have hB9 : Below w.heap.size w w4 := hW.below _ _ hs3 (hB3.alloc hs3 _)
  have hr9 : Box w4 w.heap.size zero32 := hW.past _ _ (by omega) (hr3.alloc _)
  have hd9 := hW.box
  clear hW hB3 hr3
  go_upto_region 2 with fail
  refine wp_region_held_drew (S := fun w' => Box w' (w3.heap.size) (E.map (Value.int .u8))) (by kernel_rfl) (hd9.drew) (fun _ => ?_)
  refine F_drew (F := fun W => wpAnyH _ _ _ _ _ _ _ _ W) ?_
  intro W0 hb0
  have hd0 := hd9.below hb0; have hr0 := hr9.below hb0; have hB0 := below_thru hB9 hb0
  clear hd9 hr9 hB9 hb0
  refine takeH 0 11 (v := ?va0_1) rfl (by rfl) (by kernel_rfl) (by kernel_rfl) (by kernel_rfl) (fun _ _ _ h => h) (Or.inl ⟨by rfl, ?_⟩) (hd0) ?_
  rotate_left
  · intro wq hSq
    go_simp
    exact rfl
  try simp only [Act.put, List.setIfInBounds_toArray, List.set_cons_zero, List.set_cons_succ]
  refine takeH 2 13 (v := ?va2_2) rfl (by rfl) (by kernel_rfl) (by kernel_rfl) (by kernel_rfl) (fun _ _ _ h => h) (Or.inl ⟨by rfl, ?_⟩) (hd0) ?_
  rotate_left
  · intro wq hSq
    go_simp
    exact rfl
  try simp only [Act.put, List.setIfInBounds_toArray, List.set_cons_zero, List.set_cons_succ]
  refine wpAnyH_ready (rs := [1]) (by kernel_rfl) (by simp) (AllReadyH.cons rfl (fun K hK => ?_) AllReadyH.nil)
  go_simp
  refine (rmixed_is 92 _ (Lib.hid (IsL.below hi.out hB0)) (by omega) hk HQ).mono ?_
  rintro e W3 ⟨u3, rfl, ho3, hb3⟩
  have sz3 := Below.size hb3
  have hd3 := Box.below hd0 hb3; have hr3 := Box.below hr0 hb3; have hB3 := below_thru hB0 hb3
  refine hK.out _ _ (hd3) (fun _ => ?_); clear hK K
  refine wpAnyH_ready (rs := [3]) (by kernel_rfl) (by simp) (AllReadyH.cons rfl (fun K hK => ?_) AllReadyH.nil)
  have dl4 := Box.lt hd0; have rl4 := Box.lt hr0
  refine step_append_own rfl _ _ 23 (by rfl) W0.heap.size 5 ti (.int .u8 0) 1 .u8 Tryd.underlying23 hin hz0 hz1 hz2 rfl u3 Q E _ (by rfl) (by rfl) ho3 (IsL.box 32 HDL.out hd3 (by omega)) (by have := HQL.out; have := HDL.out; unfold maxLen; omega) (by have := HQL.out; have := HDL.out; omega) sz3 ?_
  intro v4 W4 own4 hb4
  have hd4 := Box.keepB hd3 hb4 dl4; have hr4 := Box.keepB hr3 hb4 rl4; have hB4 := Below.trans hB3 (Below.mono hb4 (Below.size hB0))
  have HI4 := Lib.hid (IsL.own own4 rfl)
  refine hK.out _ _ (hd4) (fun _ => ?_); clear hK K
  refine wpAnyH_ready (rs := [4]) (by kernel_rfl) (by simp) (AllReadyH.cons rfl (fun K hK => ?_) AllReadyH.nil)
  go_simp
  refine (rof_is _ HI4 HQS.out HQB HD).mono ?_
  rintro e W5 ⟨rfl, hb5⟩
  have hd5 := Box.below hd4 hb5; have hr5 := Box.below hr4 hb5; have hB5 := below_thru hB4 hb5
  refine hK.out _ _ (hd5) (fun _ => ?_); clear hK K
  refine wpAnyH_ready (rs := [5]) (by kernel_rfl) (by simp) (AllReadyH.cons rfl (fun K hK => ?_) AllReadyH.nil)
  refine step_store_box0 (cs := D.map (Value.int .u8)) rfl rfl _ _ _ rfl hr5 rfl rfl I32.out H32.out (oneCell_ints _) ?_
  intro W6 hW6
  have hd6 := hW6.past _ _ (by omega) hd5; have hr6 := hW6.box; have hB6 := hW6.below _ _ (by omega) hB5
  refine hK.out _ _ (hd6) (fun _ => ?_); clear hK K
  refine wpAnyH_done (by kernel_rfl) ?_ _
  go_wp2_with fail
  exact bodyPost_ret (v := av D) (results_box Tryd.results29 hr6 rfl Tryd.underlying31 rfl I32.out) rfl ⟨rfl, hB6⟩

set_option maxRecDepth 100000 in
set_option maxHeartbeats 1600000 in
theorem rinner_many {a0 a1 : Option Addr} {n m c0 c1 : Nat} (w : World) (hl : 200 < n ∨ 127936 < m) (h1 : n ≤ 9223372036854775807) (h2 : m ≤ 9223372036854775807) :
    Calls Tryd.prog 18 #[.slice a0 n c0, .slice a1 m c1] w fun e w' => e = .returned (.tuple #[av zeros32, .int .i64 4]) ∧ Below w.heap.size w w' := by
  by_cases q : 200 < n
  · clear hl
    go_enter Tryd.func18, Tryd.ntmps18
    go_wp2_with (refine wpList_store_box (cs := zero32) rfl _ _ _ rfl (Box.newc (l := zero32) rfl rfl) rfl rfl size32 rfl (oneCell_ints _) ?_; intro W3 hW3)
    exact bodyPost_ret (v := .tuple #[av zeros32, .int .i64 4]) (results_box2 Tryd.results18 hW3.box rfl rfl Tryd.underlying31 rfl size32) rfl ⟨rfl, hW3.below _ _ (by omega) (by go_grown)⟩
  · have q2 : 127936 < m := by omega
    have q3 : n ≤ 200 := by omega
    clear hl q
    go_enter Tryd.func18, Tryd.ntmps18
    go_wp2_with (refine wpList_store_box (cs := zero32) rfl _ _ _ rfl (Box.newc (l := zero32) rfl rfl) rfl rfl size32 rfl (oneCell_ints _) ?_; intro W3 hW3)
    exact bodyPost_ret (v := .tuple #[av zeros32, .int .i64 4]) (results_box2 Tryd.results18 hW3.box rfl rfl Tryd.underlying31 rfl size32) rfl ⟨rfl, hW3.below _ _ (by omega) (by go_grown)⟩

set_option maxRecDepth 100000 in
set_option maxHeartbeats 1600000 in
theorem rinner_ok {v v2 : Value} {K xs D : List Int} (w : World) (hi : Hid (IsL w .u8 v K)) (h2 : Hid (IsL w .u8 v2 xs)) (hl : K.length ≤ 200) (hl2 : xs.length ≤ 127936) (hk : Hid (bytesL K)) (hx : Hid (bytesL xs)) (hD : Hid (innerL K xs = D)) :
    Calls Tryd.prog 18 #[v, v2] w fun e w' => e = .returned (.tuple #[av D, .int .i64 0]) ∧ Below w.heap.size w w' := by
  obtain ⟨ti, hin, hz0, hz1, hz2⟩ := info8
  obtain ⟨a0, c0, rfl, hin0, _⟩ := id hi.out
  obtain ⟨a1, c1, rfl, hin1, _⟩ := id h2.out
  have m1 := hin0.room
  have m2 := hin0.most
  have m3 := hin1.room
  have m4 := hin1.most
  clear hin0 hin1
  obtain ⟨P, hPe⟩ : ∃ P, padI K = P := ⟨_, rfl⟩
  have HP := Lib.hid (show mixL 54 (blk K) = P from hPe)
  have HPL := Lib.hid (show P.length = 64 by rw [← hPe, padI_len])
  have HPB := Lib.hid (show bytesL (P ++ xs) by rw [← hPe]; exact (padI_bytes hk.out).append hx.out)
  have HSL := Lib.hid (show (P ++ xs).length ≤ 128000 by rw [List.length_append, ← hPe, padI_len]; omega)
  have HE := Lib.hid (show shaOf (P ++ xs) = D by rw [← hD.out, ← hPe]; rfl)
  have hDl : D.length = 32 := by rw [← HE.out]; exact shaOf_len _
  have I32 := Lib.hid (size_dig hDl)
  have H32 := Lib.hid (len_dig hDl)
  clear hPe hDl hD
  go_enter Tryd.func18, Tryd.ntmps18
  go_wp2_with fail
  refine (rmixed_is 54 _ (Lib.hid (IsL.alloc hi.out _)) (by omega) hk HP).mono ?_
  rintro e w1 ⟨u1, rfl, ho, hb⟩
  have hB1 : Below w.heap.size w w1 := below_thru (by go_grown) hb
  have hr1 : Box w1 w.heap.size zero32 := Box.below (Box.newc rfl rfl) hb
  have ho1 := owns_mono (B' := w.heap.size + 1) ho (by simp)
  have hs1 := hB1.size
  clear ho hb
  go_wp2_with (at_builtin; refine wpList_append_onto rfl _ _ 23 rfl (w.heap.size + 1) 5 ti (.int .u8 0) 1 .u8 Tryd.underlying23 hin hz0 hz1 hz2 rfl u1 P xs _ rfl rfl ho1 (h2.out.below hB1) (by have := HPL.out; unfold maxLen; omega) (by have := HPL.out; omega) hr1.lt ?_; intro va w2 howa hba)
  have hB2 : Below w.heap.size w w2 := hB1.trans (hba.mono (by omega))
  have hr2 : Box w2 w.heap.size zero32 := hr1.keepB hba (by omega)
  have HI := Lib.hid (IsL.own howa rfl)
  clear howa hba hB1 ho1 hr1
  refine (rof_is _ HI HSL.out HPB HE).mono ?_
  rintro e w3 ⟨rfl, hb⟩
  have hB3 := below_thru hB2 hb
  have hr3 := hr2.below hb
  have hs3 := hB3.size
  have hz3 := hr3.lt
  clear hb hB2 hr2 HI
  go_wp2_with (refine wpList_store_box (cs := D.map (Value.int .u8)) rfl _ _ _ rfl hr3 rfl rfl I32.out H32.out (oneCell_ints _) ?_; intro W3 hW3)
  exact bodyPost_ret (v := .tuple #[av D, .int .i64 0]) (results_box2 Tryd.results18 hW3.box rfl rfl Tryd.underlying31 rfl I32.out) rfl ⟨rfl, hW3.below _ _ (by omega) hB3⟩
theorem rinner_any {v v2 : Value} {K xs D : List Int} {x : Int} (w : World) (hi : Hid (IsL w .u8 v K)) (h2 : Hid (IsL w .u8 v2 xs)) (hk : Hid (bytesL K)) (hx : Hid (bytesL xs)) (hD : Hid (innerOut K xs = (D, x))) :
    Calls Tryd.prog 18 #[v, v2] w fun e w' => e = .returned (.tuple #[av D, .int .i64 x]) ∧ Below w.heap.size w w' := by
  have h := hD.out
  unfold innerOut behindOut at h
  by_cases q : 200 < K.length ∨ 127936 < xs.length
  · have h' : (zeros32, (4 : Int)) = (D, x) := by
      by_cases q1 : 200 < K.length
      · rw [if_pos q1] at h; exact h
      · rw [if_neg q1, if_pos (by omega)] at h; exact h
    injection h' with e1 e2
    subst e1 e2
    obtain ⟨a0, c0, rfl, hin0, _⟩ := id hi.out
    obtain ⟨a1, c1, rfl, hin1, _⟩ := id h2.out
    exact rinner_many w q (Nat.le_trans hin0.room hin0.most) (Nat.le_trans hin1.room hin1.most)
  · rw [if_neg (by omega), if_neg (by omega)] at h
    injection h with e1 e2
    subst e2
    exact rinner_ok w hi h2 (by omega) (by omega) hk hx (Lib.hid e1)

set_option maxRecDepth 100000 in
set_option maxHeartbeats 1600000 in
theorem router_many {a0 : Option Addr} {n c0 : Nat} {d : List Int} (w : World) (hl : 200 < n) (h1 : n ≤ 9223372036854775807) :
    Calls Tryd.prog 19 #[.slice a0 n c0, av d] w fun e w' => e = .returned (.tuple #[av zeros32, .int .i64 4]) ∧ Below w.heap.size w w' := by
  obtain ⟨A, hA⟩ : ∃ A, (d.map (Value.int .u8)).toArray = A := ⟨_, rfl⟩
  have HA := Lib.hid hA
  rw [show av d = .agg A by unfold av; rw [hA]]
  clear hA
  go_enter Tryd.func19, Tryd.ntmps19
  go_wp2_with (refine wpList_store_box (cs := zero32) rfl _ _ _ rfl (Box.newc (l := zero32) rfl (by simp)) rfl rfl size32 rfl (oneCell_ints _) ?_; intro W3 hW3)
  exact bodyPost_ret (v := .tuple #[av zeros32, .int .i64 4]) (results_box2 Tryd.results19 hW3.box rfl rfl Tryd.underlying31 rfl size32) rfl ⟨rfl, hW3.below _ _ (by omega) (by go_grown)⟩
set_option maxRecDepth 100000 in
set_option maxHeartbeats 1600000 in
theorem router_ok {v : Value} {K d D : List Int} (w : World) (hi : Hid (IsL w .u8 v K)) (hl : K.length ≤ 200) (hk : Hid (bytesL K)) (hdl : d.length = 32) (hdb : bytesL d) (hD : Hid (outerL K d = D)) :
    Calls Tryd.prog 19 #[v, av d] w fun e w' => e = .returned (.tuple #[av D, .int .i64 0]) ∧ Below w.heap.size w w' := by
  obtain ⟨ti, hin, hz0, hz1, hz2⟩ := info8
  obtain ⟨a0, c0, rfl, hin0, _⟩ := id hi.out
  have m1 := hin0.room
  have m2 := hin0.most
  clear hin0
  obtain ⟨A, hA⟩ : ∃ A, (d.map (Value.int .u8)).toArray = A := ⟨_, rfl⟩
  have HA := Lib.hid hA
  rw [show av d = .agg A by unfold av; rw [hA]]
  clear hA
  obtain ⟨Q, hQe⟩ : ∃ Q, padO K = Q := ⟨_, rfl⟩
  have HQ := Lib.hid (show mixL 92 (blk K) = Q from hQe)
  have HQL := Lib.hid (show Q.length = 64 by rw [← hQe, padO_len])
  have HQB := Lib.hid (show bytesL (Q ++ d) by rw [← hQe]; exact (padO_bytes hk.out).append hdb)
  have HQS := Lib.hid (show (Q ++ d).length ≤ 128000 by rw [List.length_append, ← hQe, padO_len, hdl]; omega)
  have HD := Lib.hid (show shaOf (Q ++ d) = D by rw [← hD.out, ← hQe]; rfl)
  have hDl : D.length = 32 := by rw [← HD.out]; exact shaOf_len _
  have I32 := Lib.hid (size_dig hDl)
  have H32 := Lib.hid (len_dig hDl)
  have HDL := Lib.hid hdl
  clear hQe hdl hdb hDl hD
  go_enter Tryd.func19, Tryd.ntmps19
  go_upto_region 3 with fail
  have hd8 : Box ((w.alloc (.cells A 31)).alloc (.cells zero32.toArray 31)) w.heap.size (d.map (Value.int .u8)) := Box.alloc (Box.newc HA.out.symm rfl) _
  have hr8 : Box ((w.alloc (.cells A 31)).alloc (.cells zero32.toArray 31)) (w.heap.size + 1) zero32 := Box.newc rfl (by simp)
  have hB8 : Below w.heap.size w ((w.alloc (.cells A 31)).alloc (.cells zero32.toArray 31)) := by go_grown
  refine F_world2 (F := fun W => Code.wp _ _ _ _ W) (J := fun W => Box W w.heap.size (d.map (Value.int .u8))) (J2 := fun W => Box W (w.heap.size + 1) zero32) (J3 := fun W => Below w.heap.size w W) hd8 hr8 hB8 ?_
  clear hd8 hr8 hB8
  intro w3 hd9 hr9 hB9
  refine wp_region_held_drew (S := fun w' => Box w' (w.heap.size) (d.map (Value.int .u8))) (by kernel_rfl) (hd9.drew) (fun _ => ?_)
  refine F_drew (F := fun W => wpAnyH _ _ _ _ _ _ _ _ W) ?_
  intro W0 hb0
  have hd0 := hd9.below hb0; have hr0 := hr9.below hb0; have hB0 := below_thru hB9 hb0
  clear hd9 hr9 hB9 hb0
  refine takeH 0 10 (v := ?va0_1) rfl (by rfl) (by kernel_rfl) (by kernel_rfl) (by kernel_rfl) (fun _ _ _ h => h) (Or.inl ⟨by rfl, ?_⟩) (hd0) ?_
  rotate_left
  · intro wq hSq
    go_simp
    exact rfl
  try simp only [Act.put, List.setIfInBounds_toArray, List.set_cons_zero, List.set_cons_succ]
  refine takeH 2 12 (v := ?va2_2) rfl (by rfl) (by kernel_rfl) (by kernel_rfl) (by kernel_rfl) (fun _ _ _ h => h) (Or.inl ⟨by rfl, ?_⟩) (hd0) ?_
  rotate_left
  · intro wq hSq
    go_simp
    exact rfl
  try simp only [Act.put, List.setIfInBounds_toArray, List.set_cons_zero, List.set_cons_succ]
  refine wpAnyH_ready (rs := [1]) (by kernel_rfl) (by simp) (AllReadyH.cons rfl (fun K hK => ?_) AllReadyH.nil)
  go_simp
  refine (rmixed_is 92 _ (Lib.hid (IsL.below hi.out hB0)) (by omega) hk HQ).mono ?_
  rintro e W3 ⟨u3, rfl, ho3, hb3⟩
  have sz3 := Below.size hb3
  have hd3 := Box.below hd0 hb3; have hr3 := Box.below hr0 hb3; have hB3 := below_thru hB0 hb3
  refine hK.out _ _ (hd3) (fun _ => ?_); clear hK K
  refine wpAnyH_ready (rs := [3]) (by kernel_rfl) (by simp) (AllReadyH.cons rfl (fun K hK => ?_) AllReadyH.nil)
  have dl4 := Box.lt hd0; have rl4 := Box.lt hr0
  refine step_append_own rfl _ _ 23 (by rfl) W0.heap.size 5 ti (.int .u8 0) 1 .u8 Tryd.underlying23 hin hz0 hz1 hz2 rfl u3 Q d _ (by rfl) (by rfl) ho3 (IsL.box 32 HDL.out hd3 (by omega)) (by have := HQL.out; have := HDL.out; unfold maxLen; omega) (by have := HQL.out; have := HDL.out; omega) sz3 ?_
  intro v4 W4 own4 hb4
  have hd4 := Box.keepB hd3 hb4 dl4; have hr4 := Box.keepB hr3 hb4 rl4; have hB4 := Below.trans hB3 (Below.mono hb4 (Below.size hB0))
  have HI4 := Lib.hid (IsL.own own4 rfl)
  refine hK.out _ _ (hd4) (fun _ => ?_); clear hK K
  refine wpAnyH_ready (rs := [4]) (by kernel_rfl) (by simp) (AllReadyH.cons rfl (fun K hK => ?_) AllReadyH.nil)
  go_simp
  refine (rof_is _ HI4 HQS.out HQB HD).mono ?_
  rintro e W5 ⟨rfl, hb5⟩
  have hd5 := Box.below hd4 hb5; have hr5 := Box.below hr4 hb5; have hB5 := below_thru hB4 hb5
  refine hK.out _ _ (hd5) (fun _ => ?_); clear hK K
  refine wpAnyH_ready (rs := [5]) (by kernel_rfl) (by simp) (AllReadyH.cons rfl (fun K hK => ?_) AllReadyH.nil)
  refine step_store_box0 (cs := D.map (Value.int .u8)) rfl rfl _ _ _ rfl hr5 rfl rfl I32.out H32.out (oneCell_ints _) ?_
  intro W6 hW6
  have hd6 := hW6.past _ _ (by omega) hd5; have hr6 := hW6.box; have hB6 := hW6.below _ _ (by omega) hB5
  refine hK.out _ _ (hd6) (fun _ => ?_); clear hK K
  refine takeH 6 5 (v := ?va6_7) rfl (by rfl) (by kernel_rfl) (by kernel_rfl) (by kernel_rfl) (fun _ _ _ h => h) (Or.inl ⟨by rfl, ?_⟩) (hd6) ?_
  rotate_left
  · intro wq hSq
    go_simp
    exact rfl
  try simp only [Act.put, List.setIfInBounds_toArray, List.set_cons_zero, List.set_cons_succ]
  refine wpAnyH_done (by kernel_rfl) ?_ _
  go_wp2_with fail
  exact bodyPost_ret (v := .tuple #[av D, .int .i64 0]) (results_box2 Tryd.results19 hr6 rfl rfl Tryd.underlying31 rfl I32.out) rfl ⟨rfl, hB6⟩
theorem router_any {v : Value} {K d D : List Int} {x : Int} (w : World) (hi : Hid (IsL w .u8 v K)) (hk : Hid (bytesL K)) (hdl : d.length = 32) (hdb : bytesL d) (hD : Hid (outerOut K d = (D, x))) :
    Calls Tryd.prog 19 #[v, av d] w fun e w' => e = .returned (.tuple #[av D, .int .i64 x]) ∧ Below w.heap.size w w' := by
  have h := hD.out
  unfold outerOut behindOut at h
  by_cases q : 200 < K.length
  · rw [if_pos q] at h
    injection h with e1 e2
    subst e1 e2
    obtain ⟨a0, c0, rfl, hin0, _⟩ := id hi.out
    exact router_many w q (Nat.le_trans hin0.room hin0.most)
  · rw [if_neg q, if_neg (by omega)] at h
    injection h with e1 e2
    subst e2
    exact router_ok w hi (by omega) hk hdl hdb (Lib.hid e1)

set_option maxRecDepth 100000 in
set_option maxHeartbeats 1600000 in
theorem rsum6_many {a0 a1 : Option Addr} {n m c0 c1 : Nat} (w : World) (hl : 200 < n ∨ 127936 < m) (h1 : n ≤ 9223372036854775807) (h2 : m ≤ 9223372036854775807) :
    Calls Tryd.prog 20 #[.slice a0 n c0, .slice a1 m c1] w fun e w' => e = .returned (.tuple #[av zeros32, .int .i64 4]) ∧ Below w.heap.size w w' := by
  by_cases q : 200 < n
  · clear hl
    go_enter Tryd.func20, Tryd.ntmps20
    go_wp2_with (refine wpList_store_box (cs := zero32) rfl _ _ _ rfl (Box.newc (l := zero32) rfl rfl) rfl rfl size32 rfl (oneCell_ints _) ?_; intro W3 hW3)
    exact bodyPost_ret (v := .tuple #[av zeros32, .int .i64 4]) (results_box2 Tryd.results20 hW3.box rfl rfl Tryd.underlying31 rfl size32) rfl ⟨rfl, hW3.below _ _ (by omega) (by go_grown)⟩
  · have q2 : 127936 < m := by omega
    have q3 : n ≤ 200 := by omega
    clear hl q
    go_enter Tryd.func20, Tryd.ntmps20
    go_wp2_with (refine wpList_store_box (cs := zero32) rfl _ _ _ rfl (Box.newc (l := zero32) rfl rfl) rfl rfl size32 rfl (oneCell_ints _) ?_; intro W3 hW3)
    exact bodyPost_ret (v := .tuple #[av zeros32, .int .i64 4]) (results_box2 Tryd.results20 hW3.box rfl rfl Tryd.underlying31 rfl size32) rfl ⟨rfl, hW3.below _ _ (by omega) (by go_grown)⟩

set_option maxRecDepth 100000 in
set_option maxHeartbeats 1600000 in
theorem rsum6_ok {v v2 : Value} {K xs D : List Int} (w : World) (hi : Hid (IsL w .u8 v K)) (h2 : Hid (IsL w .u8 v2 xs)) (hl : K.length ≤ 200) (hl2 : xs.length ≤ 127936) (hk : Hid (bytesL K)) (hx : Hid (bytesL xs)) (hD : Hid (tagL K xs = D)) :
    Calls Tryd.prog 20 #[v, v2] w fun e w' => e = .returned (.tuple #[av D, .int .i64 0]) ∧ Below w.heap.size w w' := by
  obtain ⟨a0, c0, rfl, hin0, _⟩ := id hi.out
  obtain ⟨a1, c1, rfl, hin1, _⟩ := id h2.out
  have m1 := hin0.room
  have m2 := hin0.most
  have m3 := hin1.room
  have m4 := hin1.most
  clear hin0 hin1
  have hDl : D.length = 32 := by rw [← hD.out]; exact tagL_len _ _
  have I32 := Lib.hid (size_dig hDl)
  have H32 := Lib.hid (len_dig hDl)
  clear hDl
  go_enter Tryd.func20, Tryd.ntmps20
  go_wp2_with fail
  refine (rtag_is _ (Lib.hid (hi.out.alloc _)) (Lib.hid (h2.out.alloc _)) hl hl2 hk hx hD).mono ?_
  rintro e w1 ⟨rfl, hb⟩
  have hB1 : Below w.heap.size w w1 := below_thru (by go_grown) hb
  have hr1 : Box w1 w.heap.size zero32 := Box.below (Box.newc rfl rfl) hb
  clear hb
  go_wp2_with (refine wpList_store_box (cs := D.map (Value.int .u8)) rfl _ _ _ rfl hr1 rfl rfl I32.out H32.out (oneCell_ints _) ?_; intro W3 hW3)
  exact bodyPost_ret (v := .tuple #[av D, .int .i64 0]) (results_box2 Tryd.results20 hW3.box rfl rfl Tryd.underlying31 rfl I32.out) rfl ⟨rfl, hW3.below _ _ (by omega) hB1⟩
theorem rsum6_any {v v2 : Value} {K xs D : List Int} {x : Int} (w : World) (hi : Hid (IsL w .u8 v K)) (h2 : Hid (IsL w .u8 v2 xs)) (hk : Hid (bytesL K)) (hx : Hid (bytesL xs)) (hD : Hid (sumOut K xs = (D, x))) :
    Calls Tryd.prog 20 #[v, v2] w fun e w' => e = .returned (.tuple #[av D, .int .i64 x]) ∧ Below w.heap.size w w' := by
  have h := hD.out
  unfold sumOut at h
  by_cases q : 200 < K.length ∨ 127936 < xs.length
  · rw [if_pos q] at h
    injection h with e1 e2
    subst e1 e2
    obtain ⟨a0, c0, rfl, hin0, _⟩ := id hi.out
    obtain ⟨a1, c1, rfl, hin1, _⟩ := id h2.out
    exact rsum6_many w q (Nat.le_trans hin0.room hin0.most) (Nat.le_trans hin1.room hin1.most)
  · rw [if_neg q] at h
    injection h with e1 e2
    subst e2
    exact rsum6_ok w hi h2 (by omega) (by omega) hk hx (Lib.hid e1)

end Go.Proofs.YtfobjdkpdeiidaaDoor
