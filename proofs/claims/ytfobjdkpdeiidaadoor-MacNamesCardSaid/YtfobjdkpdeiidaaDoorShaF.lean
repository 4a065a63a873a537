/-
  slices.Grow of the nil slice, slices.Concat of two slices, slices.Clone, over bytes.
-/
import Derived.Test.YtfobjdkpdeiidaaDoorShaE
import Derived.Lib.AppendZerosOnto
import Derived.Lib.SliceRun
import Derived.Lib.Walk
namespace Go.Proofs.YtfobjdkpdeiidaaDoor
open Go.RowKit Go.Lib

/-- A row of the call's own that reads as a list of bytes. -/
def OwnL (w w' : World) (v : Value) (xs : List Int) : Prop := w'.ownsRow w.heap.size 5 1 v xs.length (xs.map (Value.int .u8)) ∧ Below w.heap.size w w'
set_option maxHeartbeats 1000000 in
set_option maxRecDepth 100000 in
theorem grow_nil (n : Nat) (w : World) (hn : n ≤ 1000000000) : Calls Tryd.prog 44 #[.slice none 0 0, .int .i64 (n : Int)] w fun e w' => ∃ v, e = .returned v ∧ OwnL w w' v [] := by
  by_cases h0 : n = 0
  · subst h0
    go_enter Tryd.func44, Tryd.ntmps44
    go_wp2
    go_ret
    exact ⟨_, rfl, owns_none, Below.refl _ _⟩
  · obtain ⟨i0, hi0, hz0, hz1, hz2⟩ := info_parts info_u8
    have hold : (Builtin.firstCells i0.size 0 (.slice none 0 0)).run Tryd.prog w.drew = .ok ([] : List Value).toArray w.drew := run_firstCells_none w.drew i0.size 0 0 0
    have hrz : ∀ ty, (Builtin.append_ #[23, 3] ty #[.slice none 0 0, .int .i64 (n : Int)]).run Tryd.prog w =
        .ok (.slice (some ⟨w.heap.size, 0, none⟩) n (grownCap w n 0 5)) (w.drew.alloc (.cells (([] : List Value).toArray ++ Builtin.zeroCells (Value.int .u8 0).cells n ++ Builtin.zeroCells (Value.int .u8 0).cells (grownCap w n 0 5 - n)) 5)) := fun ty => by
      have h := Lib.run_append_grow_zeros (P := Tryd.prog) w 23 3 ty 5 i0 (.int .u8 0) .i64 .i64 Tryd.underlying23 Tryd.underlying3 hi0 hz0 none 0 0 [] hold n (by omega) (by omega) (by omega) (by omega)
        (by rw [hz2]; omega) (by rw [hz2]; exact growslice_fits (by omega) (by omega))
      rw [Nat.zero_add] at h
      exact h
    have hGn : n ≤ grownCap w n 0 5 := grownCap_ge w _ _ _
    have hG63 : grownCap w n 0 5 ≤ maxLen := grownCap_le_maxLen w n 0 5 (by unfold maxLen; omega)
    obtain ⟨G, hG⟩ : ∃ G, G = grownCap w n 0 5 := ⟨_, rfl⟩
    rw [← hG] at hrz hGn hG63
    obtain ⟨C, hC⟩ : ∃ C : Array Value, C = ([] : List Value).toArray ++ Builtin.zeroCells (Value.int .u8 0).cells n ++ Builtin.zeroCells (Value.int .u8 0).cells (G - n) := ⟨_, rfl⟩
    have hCs : C.size = G := by rw [hC]; simp [Builtin.zeroCells, Value.cells]; omega
    rw [← hC] at hrz
    clear hG hC hold
    have hn0 : ¬ (n : Int) ≤ 0 := by omega
    have hG63' := hG63
    unfold maxLen at hG63'
    go_enter Tryd.func44, Tryd.ntmps44
    go_wp2_with (at_builtin; refine Lib.wpList_append_run _ rfl _ _ _ _ rfl _ _ rfl rfl _ _ (hrz _) ?_)
    all_goals go_ret
    all_goals exact ⟨_, rfl, ⟨rfl, Or.inr ⟨w.heap.size, G, C, rfl, Nat.le_refl _, heap_alloc_new w.drew _, Nat.zero_le _, hG63, by rw [hCs, Nat.mul_one], rfl⟩⟩, by go_grown⟩

/-- Behind an append: the row, and what was below. -/
theorem OwnL.more {w w1 w2 : World} {v v' : Value} {xs ys : List Int} (h : OwnL w w1 v xs) (h1 : w2.ownsRow w.heap.size 5 1 v' (xs.length + ys.length) (xs.map (Value.int .u8) ++ ys.map (Value.int .u8))) (h2 : w1.grownBy w2 v.ownBlock) : OwnL w w2 v' (xs ++ ys) := by
  refine ⟨?_, h.2.grown h2 h.2.size (own_block h.1)⟩
  rw [List.length_append, List.map_append]
  exact h1
theorem IsL.parts {w : World} {k : IntKind} {a : Option Addr} {n c : Nat} {xs : List Int} (h : IsL w k (.slice a n c) xs) : Ints w k a c xs ∧ (a = Option.none → c = 0) := by
  obtain ⟨a', c', e, hi, h0⟩ := h
  injection e with e1 e2 e3
  subst e1 e3
  exact ⟨hi, h0⟩
theorem OwnL.is {w w1 : World} {v : Value} {xs : List Int} (h : OwnL w w1 v xs) : IsL w1 .u8 v xs := IsL.own h.1 rfl
set_option maxHeartbeats 1000000 in
set_option maxRecDepth 100000 in
theorem concat_any (b : Nat) (v1 v2 : Value) (xs ys : List Int) (w : World) (h0 : w.cell? ⟨b, 0, none⟩ = some v1) (h1 : w.cell? ⟨b, 1, none⟩ = some v2) (hx : IsL w .u8 v1 xs) (hy : IsL w .u8 v2 ys) (hl : xs.length + ys.length ≤ 1000000000) :
    Calls Tryd.prog 33 #[.slice (some ⟨b, 0, none⟩) 2 2] w fun e w' => ∃ v, e = .returned v ∧ OwnL w w' v (xs ++ ys) := by
  have HX := Lib.hid hx
  have HY := Lib.hid hy
  obtain ⟨a1, c1, rfl, i1, n1⟩ := hx
  obtain ⟨a2, c2, rfl, i2, n2⟩ := hy
  clear i1 i2 n1 n2
  go_enter Tryd.func33, Tryd.ntmps33
  go_wp2_with fail
  refine wp_loop_rounds 3 ?_
  rw [rounds_succ]; go_wp2_with fail
  rw [rounds_succ]; go_wp2_with fail
  rw [rounds_succ]; go_wp2_with fail
  rw [show (xs.length : Int) + (ys.length : Int) = ((xs.length + ys.length : Nat) : Int) by omega]
  refine (grow_nil _ _ hl).mono ?_
  rintro e w1 ⟨v, rfl, hO⟩
  have k0 := cell_below hO.2 h0
  have k1 := cell_below hO.2 h1
  have HX1 := Lib.hid (HX.out.below hO.2)
  have HY1 := Lib.hid (HY.out.below hO.2)
  have HO := Lib.hid hO
  have HK0 := Lib.hid h0
  have HK1 := Lib.hid h1
  clear h0 h1 hO
  obtain ⟨i0, hi0, hz0, hz1, hz2⟩ := info_parts info_u8
  go_wp2_with fail
  refine wp_loop_rounds 3 ?_
  rw [rounds_succ]
  go_wp2_with (at_builtin; refine wpList_append_ints rfl (.tmp 31) (.tmp 32) 23 rfl w.heap.size 5 i0 (.int .u8 0) 1 .u8 Tryd.underlying23 hi0 hz0 hz1 hz2 rfl v 0 [] rfl HO.out.1 a1 c1 xs rfl HX1.out.parts.1 HX1.out.parts.2 (by unfold maxLen; omega) (by omega) HO.out.2.size ?_; intro v' w2 hw2 hg2)
  have HO2 := Lib.hid (HO.out.more hw2 hg2)
  clear hw2 hg2
  have k0' := cell_below HO2.out.2 HK0.out
  have k1' := cell_below HO2.out.2 HK1.out
  have HY2 := Lib.hid (HY.out.below HO2.out.2)
  clear k0 k1 HO HX1 HY1
  rw [rounds_succ]
  go_wp2_with (at_builtin; refine wpList_append_ints rfl (.tmp 31) (.tmp 32) 23 rfl w.heap.size 5 i0 (.int .u8 0) 1 .u8 Tryd.underlying23 hi0 hz0 hz1 hz2 rfl v' ([] ++ xs).length (([] ++ xs).map (Value.int .u8)) rfl HO2.out.1 a2 c2 ys rfl HY2.out.parts.1 HY2.out.parts.2 (by unfold maxLen; simp; omega) (by simp; omega) HO2.out.2.size ?_; intro v2 w3 hw3 hg3)
  have HO3 := Lib.hid (HO2.out.more hw3 hg3)
  clear hw3 hg3 HO2 HY2 k0' k1'
  rw [rounds_succ]
  go_wp2_with fail
  go_ret
  exact ⟨_, rfl, HO3.out⟩

set_option maxHeartbeats 1000000 in
set_option maxRecDepth 100000 in
theorem clone_any (v : Value) (xs : List Int) (w : World) (hx : IsL w .u8 v xs) (hl : xs.length ≤ 1000000000) :
    Calls Tryd.prog 41 #[v] w fun e w' => ∃ v', e = .returned v' ∧ OwnL w w' v' xs := by
  have HX := Lib.hid hx
  obtain ⟨a1, c1, rfl, i1, n1⟩ := hx
  cases a1 with
  | none =>
    have hc := n1 rfl
    subst hc
    have hl0 : xs = [] := List.eq_nil_of_length_eq_zero (by have := i1.room; omega)
    subst hl0
    clear i1 n1
    have hnil := fun (W : World) => Lib.run_eql_slice_nil (P := Tryd.prog) W 23 5 none 0 0 0 0 Tryd.underlying23
    go_enter Tryd.func41, Tryd.ntmps41
    go_wp2_with fail
    go_ret
    exact ⟨_, rfl, owns_none, Below.refl _ _⟩
  | some ad =>
    clear i1 n1
    obtain ⟨i0, hi0, hz0, hz1, hz2⟩ := info_parts info_u8
    have hnil := fun (W : World) => Lib.run_eql_slice_nil (P := Tryd.prog) W 23 5 (some ad) xs.length c1 0 0 Tryd.underlying23
    go_enter Tryd.func41, Tryd.ntmps41
    go_wp2_with (at_builtin; refine wpList_append_built rfl (.tmp 5) (.tmp 6) 23 rfl 5 i0 (.int .u8 0) 1 .u8 Tryd.underlying23 hi0 hz0 hz1 hz2 rfl [] xs _ _ _ 0 0 rfl rfl rfl rfl rfl rfl HX.out (by unfold maxLen; simp; omega) (by simp; omega) ?_; intro v' w1 ho hb)
    go_ret
    exact ⟨_, rfl, ho, hb⟩

end Go.Proofs.YtfobjdkpdeiidaaDoor
