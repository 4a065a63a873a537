/-
  Package mac: Pads of too long a key; the inner and the outer sum, the tag.
-/
import Derived.Test.YtfobjdkpdeiidaaDoorMacP
import Derived.Deep.RegionHeld
namespace Go.Proofs.YtfobjdkpdeiidaaDoor
open Go.RowKit

def zeros32 : List Int := List.replicate 32 0
def padsOut (K : List Int) : List Int × List Int × Int := if 200 < K.length then (zeros64, zeros64, 4) else (padI K, padO K, 0)
def behindOut (P xs : List Int) : List Int × Int := if 127936 < xs.length then (zeros32, 4) else (shaOf (P ++ xs), 0)
def innerOut (K xs : List Int) : List Int × Int := if 200 < K.length then (zeros32, 4) else behindOut (padI K) xs
def outerOut (K d : List Int) : List Int × Int := if 200 < K.length then (zeros32, 4) else behindOut (padO K) d
def sumOut (K xs : List Int) : List Int × Int := if 200 < K.length ∨ 127936 < xs.length then (zeros32, 4) else (tagL K xs, 0)
theorem behindOut_len (P xs : List Int) : (behindOut P xs).1.length = 32 := by
  unfold behindOut
  split
  · rfl
  · exact shaOf_len _
theorem behindOut_bytes (P xs : List Int) : bytesL (behindOut P xs).1 := by
  unfold behindOut
  split
  · exact zeros_bytes 32
  · exact shaOf_bytes _
theorem innerOut_len (K xs : List Int) : (innerOut K xs).1.length = 32 := by
  unfold innerOut
  split
  · rfl
  · exact behindOut_len _ _
theorem innerOut_bytes (K xs : List Int) : bytesL (innerOut K xs).1 := by
  unfold innerOut
  split
  · exact zeros_bytes 32
  · exact behindOut_bytes _ _
theorem outerOut_len (K d : List Int) : (outerOut K d).1.length = 32 := by
  unfold outerOut
  split
  · rfl
  · exact behindOut_len _ _
theorem size_dig {D : List Int} (h : D.length = 32) : (Tryd.prog.info? 31).map (·.size) = some (D.map (Value.int .u8)).length := by rw [List.length_map, h]; exact size32
theorem len_dig {D : List Int} (h : D.length = 32) : zero32.length = (D.map (Value.int .u8)).length := by rw [List.length_map, h]; rfl

set_option maxRecDepth 100000 in
set_option maxHeartbeats 1600000 in
theorem pads_many {a0 : Option Addr} {n c0 : Nat} (w : World) (hl : 200 < n) (hm : n ≤ 9223372036854775807) :
    Calls Tryd.prog 10 #[.slice a0 n c0] w fun e w' => e = .returned (.tuple #[av zeros64, av zeros64, .int .i64 4]) ∧ Below w.heap.size w w' := by
  go_enter Tryd.func10, Tryd.ntmps10
  go_wp2_with fail
  have hx2 : Box ((w.alloc (.cells zero64.toArray 26)).alloc (.cells zero64.toArray 26)) w.heap.size zero64 := Box.alloc (Box.newc rfl rfl) _
  have hx3 : Box ((w.alloc (.cells zero64.toArray 26)).alloc (.cells zero64.toArray 26)) (w.heap.size + 1) zero64 := Box.newc rfl (by simp)
  refine (block_many _ hl hm).mono ?_
  rintro e w1 ⟨rfl, hb⟩
  have hB1 : Below w.heap.size w w1 := below_thru (by go_grown) hb
  have hx2 : Box w1 w.heap.size zero64 := Box.below hx2 hb
  have hx3 : Box w1 (w.heap.size + 1) zero64 := Box.below hx3 hb
  have hs1 := hB1.size
  have hz2 := hx3.lt
  clear hb
  go_upto_region 2 with (refine wpList_store_box (cs := zero64) rfl _ _ _ rfl (Box.newc (l := zero64) rfl rfl) rfl rfl size_b64 rfl (oneCell_ints _) ?_; intro w2 hW)
  have hB2 : Below w.heap.size w w2 := hW.below _ _ hs1 (hB1.alloc hs1 _)
  have hx4 : Box w2 w.heap.size zero64 := hW.past _ _ (by omega) (hx2.alloc _)
  have hx5 : Box w2 (w.heap.size + 1) zero64 := hW.past _ _ (by omega) (hx3.alloc _)
  clear hW hB1 hx2 hx3
  go_upto_region 3 with fail
  refine wp_region_held_drew (S := fun w' => Box w' w.heap.size zero64 ∧ Box w' (w.heap.size + 1) zero64) (by kernel_rfl) (⟨hx4.drew, hx5.drew⟩) (fun _ => ?_)
  refine F_drew (F := fun W => wpAnyH _ _ _ _ _ _ _ _ W) ?_
  intro W0 hb0
  have hx0 := hx4.below hb0
  have hy0 := hx5.below hb0
  have hB0 := below_thru hB2 hb0
  clear hx4 hx5 hB2 hb0
  refine takeH 2 16 (v := ?va2_1) rfl (by rfl) (by kernel_rfl) (by kernel_rfl) (by kernel_rfl) (fun _ _ _ h => h) (Or.inl ⟨by rfl, ?_⟩) (⟨hx0, hy0⟩) ?_
  rotate_left
  · intro wq hSq
    go_simp
    exact rfl
  try simp only [Act.put, List.setIfInBounds_toArray, List.set_cons_zero, List.set_cons_succ]
  refine takeH 0 14 (v := .agg (zero64).toArray) rfl (by rfl) (by kernel_rfl) (by kernel_rfl) (by kernel_rfl) (fun _ _ _ h => h) (yieldsIf_load_mid (by rfl) _ _ rfl _ 0 rfl (zero64) _ (fun wq hq => Box.range hq.1) Tryd.underlying26 rfl size_b64) (⟨hx0, hy0⟩) ?_
  try simp only [Act.put, List.setIfInBounds_toArray, List.set_cons_zero, List.set_cons_succ]
  refine takeH 1 15 (v := .agg (zero64).toArray) rfl (by rfl) (by kernel_rfl) (by kernel_rfl) (by kernel_rfl) (fun _ _ _ h => h) (yieldsIf_load_mid (by rfl) _ _ rfl _ 0 rfl (zero64) _ (fun wq hq => Box.range hq.2) Tryd.underlying26 rfl size_b64) (⟨hx0, hy0⟩) ?_
  try simp only [Act.put, List.setIfInBounds_toArray, List.set_cons_zero, List.set_cons_succ]
  refine wpAnyH_ready (rs := [3]) (by kernel_rfl) (by simp) (AllReadyH.cons rfl (fun K hK => ?_) AllReadyH.nil)
  refine step_store_box0 (cs := zero64) rfl rfl _ _ _ rfl hx0 rfl rfl size_b64 rfl (oneCell_ints _) ?_
  intro W2 hW2
  have hx2 := hW2.box; have hy2 := hW2.past _ _ (by omega) hy0; have hB2 := hW2.below _ _ (by omega) hB0
  refine hK.out _ _ (⟨hx2, hy2⟩) (fun _ => ?_); clear hK K
  refine wpAnyH_ready (rs := [4]) (by kernel_rfl) (by simp) (AllReadyH.cons rfl (fun K hK => ?_) AllReadyH.nil)
  refine step_store_box0 (cs := zero64) rfl rfl _ _ _ rfl hy2 rfl rfl size_b64 rfl (oneCell_ints _) ?_
  intro W3 hW3
  have hy3 := hW3.box; have hx3 := hW3.past _ _ (by omega) hx2; have hB3 := hW3.below _ _ (by omega) hB2
  refine hK.out _ _ (⟨hx3, hy3⟩) (fun _ => ?_); clear hK K
  refine takeH 5 4 (v := ?va5_4) rfl (by rfl) (by kernel_rfl) (by kernel_rfl) (by kernel_rfl) (fun _ _ _ h => h) (Or.inl ⟨by rfl, ?_⟩) (⟨hx3, hy3⟩) ?_
  rotate_left
  · intro wq hSq
    go_simp
    exact rfl
  try simp only [Act.put, List.setIfInBounds_toArray, List.set_cons_zero, List.set_cons_succ]
  refine wpAnyH_done (by kernel_rfl) ?_ _
  go_wp2_with fail
  exact bodyPost_ret (v := .tuple #[av zeros64, av zeros64, .int .i64 4]) (results_box3 Tryd.results10 hx3 hy3 rfl rfl rfl Tryd.underlying26 rfl size_b64 size_b64) rfl ⟨rfl, hB3⟩

theorem pads_any {v : Value} {K P Q : List Int} {x : Int} (w : World) (hi : Hid (IsL w .u8 v K)) (hk : Hid (bytesL K)) (hP : Hid (padsOut K = (P, Q, x))) (hL : Hid (LaidS w)) :
    Calls Tryd.prog 10 #[v] w fun e w' => e = .returned (.tuple #[av P, av Q, .int .i64 x]) ∧ Below w.heap.size w w' := by
  have h := hP.out
  unfold padsOut at h
  by_cases q : 200 < K.length
  · rw [if_pos q] at h
    injection h with e1 e2
    injection e2 with e2 e3
    subst e1 e2 e3
    obtain ⟨a0, c0, rfl, hin, _⟩ := id hi.out
    exact pads_many w q (Nat.le_trans hin.room hin.most)
  · rw [if_neg q] at h
    injection h with e1 e2
    injection e2 with e2 e3
    subst e3
    exact pads_ok w hi (by omega) hk (Lib.hid e1) (Lib.hid e2) hL

set_option maxRecDepth 100000 in
set_option maxHeartbeats 1600000 in
theorem behind_many {P : List Int} {a0 : Option Addr} {n c0 : Nat} (w : World) (hl : 127936 < n) (hm : n ≤ 9223372036854775807) :
    Calls Tryd.prog 25 #[av P, .slice a0 n c0] w fun e w' => e = .returned (.tuple #[av zeros32, .int .i64 4]) ∧ Below w.heap.size w w' := by
  obtain ⟨A, hA⟩ : ∃ A, (P.map (Value.int .u8)).toArray = A := ⟨_, rfl⟩
  unfold av
  rw [hA]
  go_enter Tryd.func25, Tryd.ntmps25
  go_wp2_with (refine wpList_store_box (cs := zero32) rfl _ _ _ rfl (Box.newc (l := zero32) rfl (by simp)) rfl rfl size32 rfl (oneCell_ints _) ?_; intro W3 hW3)
  exact bodyPost_ret (v := .tuple #[av zeros32, .int .i64 4]) (results_box2 Tryd.results25 hW3.box rfl rfl Tryd.underlying31 rfl size32) rfl ⟨rfl, hW3.below _ _ (by omega) (by go_grown)⟩

set_option maxRecDepth 100000 in
set_option maxHeartbeats 1600000 in
theorem behind_ok {v : Value} {P xs D : List Int} (w : World) (hi : Hid (IsL w .u8 v xs)) (hl : xs.length ≤ 127936) (hx : Hid (bytesL xs)) (hp : P.length = 64) (hpb : Hid (bytesL P)) (hD : Hid (shaOf (P ++ xs) = D)) (hL : Hid (LaidS w)) :
    Calls Tryd.prog 25 #[av P, v] w fun e w' => e = .returned (.tuple #[av D, .int .i64 0]) ∧ Below w.heap.size w w' := by
  obtain ⟨a0, c0, rfl, hin, _⟩ := id hi.out
  have r1 := hin.room
  have r2 := hin.most
  clear hin
  have hDl : D.length = 32 := by rw [← hD.out, shaOf_len]
  have I32 := Lib.hid (size_dig hDl)
  have H32 := Lib.hid (len_dig hDl)
  have hsum : P.length + xs.length ≤ 1000000000 := by omega
  have hsl := Lib.hid (show (P ++ xs).length ≤ 128000 by rw [List.length_append]; omega)
  have HB := Lib.hid (hpb.out.append hx.out)
  have HPL := Lib.hid hp
  clear hDl hp
  obtain ⟨A, hA⟩ : ∃ A, (P.map (Value.int .u8)).toArray = A := ⟨_, rfl⟩
  have HA := Lib.hid hA
  unfold av
  rw [hA]
  clear hA
  go_enter Tryd.func25, Tryd.ntmps25
  go_wp2_with fail
  obtain ⟨S, hS⟩ : ∃ S, S = #[Value.slice (some ⟨w.heap.size, 0, none⟩) 64 64, Value.slice a0 xs.length c0] := ⟨_, rfl⟩
  have hx2 : ∀ (o : Obj), Box (((w.alloc (.cells A 26)).alloc (.cells zero32.toArray 31)).alloc o) w.heap.size (P.map (Value.int .u8)) := fun o => Box.alloc (Box.alloc (Box.newc HA.out.symm rfl) _) _
  have hx4 : ∀ (o : Obj), Box (((w.alloc (.cells A 26)).alloc (.cells zero32.toArray 31)).alloc o) (w.heap.size + 1) zero32 := fun o => Box.alloc (Box.newc rfl (by simp)) _
  have hx5 : ∀ (t : TypeId), Box (((w.alloc (.cells A 26)).alloc (.cells zero32.toArray 31)).alloc (.cells #[Value.slice (some ⟨w.heap.size, 0, none⟩) 64 64, Value.slice a0 xs.length c0] t)) (w.heap.size + 2) [Value.slice (some ⟨w.heap.size, 0, none⟩) 64 64, Value.slice a0 xs.length c0] := fun t => Box.newc rfl (by simp)
  refine (concat_any _ _ _ P xs _ ((hx5 _).c 0 _ rfl) ((hx5 _).c 1 _ rfl) (IsL.box 64 HPL.out (hx2 _) (by omega)) (((hi.out.alloc _).alloc _).alloc _) hsum).mono ?_
  rintro e w1 ⟨v1, rfl, hc⟩
  have hb := hc.2
  have hB1 : Below w.heap.size w w1 := below_thru (by go_grown) hb
  have hy := (hx4 _).below hb
  have HI := Lib.hid hc.is
  clear hc hb hx2 hx4 hx5 hS
  go_wp2_with fail
  refine (sum_ok _ HI hsl.out HB hD (Lib.hid (hL.out.below hB1))).mono ?_
  rintro e w2 ⟨rfl, hb⟩
  have hB2 : Below w.heap.size w w2 := below_thru hB1 hb
  have hy2 := hy.below hb
  clear hb hB1 hy HI
  go_wp2_with (refine wpList_store_box (cs := D.map (Value.int .u8)) rfl _ _ _ rfl hy2 rfl rfl I32.out H32.out (oneCell_ints _) ?_; intro W3 hW3)
  exact bodyPost_ret (v := .tuple #[av D, .int .i64 0]) (results_box2 Tryd.results25 hW3.box rfl rfl Tryd.underlying31 rfl I32.out) rfl ⟨rfl, hW3.below _ _ (by omega) hB2⟩

theorem behind_any {v : Value} {P xs D : List Int} {x : Int} (w : World) (hi : Hid (IsL w .u8 v xs)) (hx : Hid (bytesL xs)) (hp : P.length = 64) (hpb : Hid (bytesL P)) (hD : Hid (behindOut P xs = (D, x))) (hL : Hid (LaidS w)) :
    Calls Tryd.prog 25 #[av P, v] w fun e w' => e = .returned (.tuple #[av D, .int .i64 x]) ∧ Below w.heap.size w w' := by
  have h := hD.out
  unfold behindOut at h
  by_cases q : 127936 < xs.length
  · rw [if_pos q] at h
    injection h with e1 e2
    subst e1 e2
    obtain ⟨a0, c0, rfl, hin, _⟩ := id hi.out
    exact behind_many w q (Nat.le_trans hin.room hin.most)
  · rw [if_neg q] at h
    injection h with e1 e2
    subst e2
    exact behind_ok w hi (by omega) hx hp hpb (Lib.hid e1) hL

end Go.Proofs.YtfobjdkpdeiidaaDoor
