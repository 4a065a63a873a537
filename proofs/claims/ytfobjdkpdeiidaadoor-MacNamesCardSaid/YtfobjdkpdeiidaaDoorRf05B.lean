/-
  The reference of layer 5: a block taken in.
-/
import Derived.Test.YtfobjdkpdeiidaaDoorRf05A
import Derived.Test.YtfobjdkpdeiidaaDoorHash05
namespace Go.Proofs.YtfobjdkpdeiidaaDoor
open Go.RowKit

theorem info32 : ∃ i, Tryd.prog.info? 58 = some i ∧ i.zero = some (.int .u32 0) ∧ i.size = 1 ∧ i.bytes = 4 := ⟨_, rfl, by kernel_rfl, by kernel_rfl, by kernel_rfl⟩
theorem own_below {w w' : World} {B e n : Nat} {v : Value} {l : List Value} (h : w.ownsRow B e 1 v n l) (hb : Below w.heap.size w w') : w'.ownsRow B e 1 v n l := by
  obtain ⟨h1, h2 | ⟨g, cap, cur, h3, hg, h4, h5⟩⟩ := h
  · exact ⟨h1, Or.inl h2⟩
  · exact ⟨h1, Or.inr ⟨g, cap, cur, h3, hg, by rw [hb.block g (Array.getElem?_eq_some_iff.1 h4).1]; exact h4, h5⟩⟩
/-- What a row of the call's own that holds something looks like. -/
theorem own_form {w : World} {k : IntKind} {B e : Nat} {v : Value} {xs : List Int} (m : Nat) (hm : xs.length = m) (h : w.ownsRow B e 1 v xs.length (xs.map (Value.int k))) (hp : 0 < m) :
    ∃ g cap, m ≤ cap ∧ v = .slice (some ⟨g, 0, none⟩) m cap ∧ ∀ j, j < m → w.cell? ⟨g, j, none⟩ = some (.int k (nth xs j)) := by
  subst hm
  rcases id h.2 with ⟨_, h0⟩ | ⟨g, cap, cur, rfl, _, _, hnc, _⟩
  · omega
  · refine ⟨g, cap, hnc, rfl, fun j hj => ?_⟩
    have := h.cells (g := g) rfl j _ (nth_get j hj)
    simpa [Go.WideShapes.add_plain] using this
theorem turn_b (x : UInt32) (m : Int) (n : Nat) (hm : Hid (m = (n : Int))) (h0 : 0 < n) (h : n < 32) (w : World) :
    Calls Tryd.prog 48 #[.int .u32 (un x), .int .i64 m] w fun e w' => e = .returned (.int .u32 (un (rotr x n))) ∧ Below w.heap.size w w' :=
  (turn_any x m n hm h0 h w).mono fun _ _ ⟨he, q, hw⟩ => ⟨he, hw ▸ below_drewN (Below.refl _ _) q⟩
set_option maxRecDepth 100000 in
set_option maxHeartbeats 16000000 in
theorem rtaken_any (h : W8) (at0 : Option Addr) (cap : Nat) (xs : List Int) (w : World) (hi : Ints w .u8 at0 cap xs) (hl : xs.length = 64) (hx : ∀ k, k < 64 → 0 ≤ nth xs k ∧ nth xs k < 256) :
    Calls Tryd.prog 45 #[.agg (hv h).toArray, .slice at0 xs.length cap] w fun e w' => e = .returned (.agg (hv (taken h xs)).toArray) ∧ Below w.heap.size w w' := by
  have hr := hi.room
  have hm := hi.most
  obtain ⟨b, off, rfl, hc⟩ := hi.cells (by omega)
  rw [hl] at hc hr
  rw [hl]
  have HC := Lib.hid hc
  have HX := Lib.hid hx
  obtain ⟨ti, hin, hz0, hz1, hz2⟩ := info32
  obtain ⟨V, hV⟩ : ∃ V, V = hv h := ⟨_, rfl⟩
  rw [← hV]
  have HV := Lib.hid hV
  clear hV hi hc hx
  go_enter Tryd.func45, Tryd.ntmps45
  go_upto_region 1 with fail
  go_cut [2, 4, 5] (fun p q r wx => p = .pointer (some ⟨w.heap.size, 0, none⟩) ∧ q = .pointer (some ⟨w.heap.size + 1, 0, none⟩) ∧ r = .slice none 0 0 ∧ Box wx w.heap.size (hv h) ∧ Box wx (w.heap.size + 1) (List.replicate 8 (.int .u32 0)) ∧ Below w.heap.size w wx)
  case first =>
    go_wp2_with fail
    go_meet
    exact ⟨rfl, rfl, rfl, Box.alloc (Box.newc (by rw [HV.out]) rfl) _, Box.newc rfl (by simp), by go_grown⟩
  case rest =>
    obtain ⟨rfl, rfl, rfl, hxh, hxr, hB1⟩ := hcut
    obtain ⟨w1, rfl⟩ : ∃ u : World, u = wc := ⟨_, rfl⟩
    have HC1 := Lib.hid (show ∀ i, i < 64 → w1.cell? ⟨b, off + i, none⟩ = some (.int .u8 (nth xs i)) from fun i hi => cell_below' hB1 (HC.out i hi))
    have H0 := Lib.hid hxh
    have HR := Lib.hid hxr
    have HB1 := Lib.hid hB1
    have hz1r := hxr.lt
    clear hxh hxr hB1 HC
    go_wp2_with fail
    go_loopw [5, 6] (fun v i wr => ∃ t : Nat, t ≤ 16 ∧ i = .int .i64 t ∧ wr.ownsRow w1.heap.size 58 1 v (words16 xs t).length ((words16 xs t).map (Value.int .u32)) ∧ Below w1.heap.size w1 wr) (fun _ i _ => 16 - (intOf i).toNat)
    case atStart => exact ⟨0, by omega, rfl, owns_none, Below.refl _ _⟩
    case round =>
      obtain ⟨t, ht, rfl, hown, hB⟩ := hrel
      by_cases hlt : t < 16
      · have x0 := HX.out (4 * t) (by omega)
        have x1 := HX.out (4 * t + 1) (by omega)
        have x2 := HX.out (4 * t + 2) (by omega)
        have x3 := HX.out (4 * t + 3) (by omega)
        have WS := Lib.hid (word_sum xs t (fun m hm => HX.out (4 * t + m) (by omega)))
        have WL := words16_len xs t
        have HO := Lib.hid hown
        have hsz := hB.size
        have hSB := Lib.hid hB
        clear hown hB
        go_upto_region 5 with fail
        refine wp_region_held_drew (S := fun w' => Below w1.heap.size w1 w') (by kernel_rfl) (hSB.out.drew) (fun hS0 => ?_)
        refine F_drew (F := fun W => (fun w' => Below w1.heap.size w1 w') W → wpAnyH _ _ _ _ _ _ _ _ W) ?_ hS0
        intro W0 hb0 hS0
        have own0 := own_below HO.out hb0
        have sz0 := hb0.size
        refine takeH 0 28 (v := ?va0_1) rfl (by rfl) (by kernel_rfl) (by kernel_rfl) (by kernel_rfl) (fun _ _ _ h => h) (Or.inl ⟨by rfl, ?_⟩) (hS0) ?_
        rotate_left
        · intro wq hSq
          go_simp
          exact rfl
        try simp only [Act.put, List.setIfInBounds_toArray, List.set_cons_zero, List.set_cons_succ]
        refine takeH 1 29 (v := ?va1_2) rfl (by rfl) (by kernel_rfl) (by kernel_rfl) (by kernel_rfl) (fun _ _ _ h => h) (Or.inl ⟨by rfl, ?_⟩) (hS0) ?_
        rotate_left
        · intro wq hSq
          go_simp
          exact rfl
        try simp only [Act.put, List.setIfInBounds_toArray, List.set_cons_zero, List.set_cons_succ]
        refine takeH 2 30 (v := ?va2_3) rfl (by rfl) (by kernel_rfl) (by kernel_rfl) (by kernel_rfl) (fun _ _ _ h => h) (Or.inl ⟨by rfl, ?_⟩) (hS0) ?_
        rotate_left
        · intro wq hSq
          go_simp
          exact rfl
        try simp only [Act.put, List.setIfInBounds_toArray, List.set_cons_zero, List.set_cons_succ]
        refine takeH 3 31 (v := ?va3_4) rfl (by rfl) (by kernel_rfl) (by kernel_rfl) (by kernel_rfl) (fun _ _ _ h => h) (Or.inl ⟨by rfl, ?_⟩) (hS0) ?_
        rotate_left
        · intro wq hSq
          go_simp
          exact rfl
        try simp only [Act.put, List.setIfInBounds_toArray, List.set_cons_zero, List.set_cons_succ]
        refine takeH 8 36 (v := ?va8_5) rfl (by rfl) (by kernel_rfl) (by kernel_rfl) (by kernel_rfl) (fun _ _ _ h => h) (Or.inl ⟨by rfl, ?_⟩) (hS0) ?_
        rotate_left
        · intro wq hSq
          go_simp
          exact rfl
        try simp only [Act.put, List.setIfInBounds_toArray, List.set_cons_zero, List.set_cons_succ]
        refine takeH 9 37 (v := ?va9_6) rfl (by rfl) (by kernel_rfl) (by kernel_rfl) (by kernel_rfl) (fun _ _ _ h => h) (Or.inl ⟨by rfl, ?_⟩) (hS0) ?_
        rotate_left
        · intro wq hSq
          go_simp
          exact rfl
        try simp only [Act.put, List.setIfInBounds_toArray, List.set_cons_zero, List.set_cons_succ]
        refine takeH 10 38 (v := ?va10_7) rfl (by rfl) (by kernel_rfl) (by kernel_rfl) (by kernel_rfl) (fun _ _ _ h => h) (Or.inl ⟨by rfl, ?_⟩) (hS0) ?_
        rotate_left
        · intro wq hSq
          go_simp
          exact rfl
        try simp only [Act.put, List.setIfInBounds_toArray, List.set_cons_zero, List.set_cons_succ]
        refine takeH 11 39 (v := ?va11_8) rfl (by rfl) (by kernel_rfl) (by kernel_rfl) (by kernel_rfl) (fun _ _ _ h => h) (Or.inl ⟨by rfl, ?_⟩) (hS0) ?_
        rotate_left
        · intro wq hSq
          go_simp
          exact rfl
        try simp only [Act.put, List.setIfInBounds_toArray, List.set_cons_zero, List.set_cons_succ]
        refine takeH 17 45 (v := ?va17_9) rfl (by rfl) (by kernel_rfl) (by kernel_rfl) (by kernel_rfl) (fun _ _ _ h => h) (Or.inl ⟨by rfl, ?_⟩) (hS0) ?_
        rotate_left
        · intro wq hSq
          go_simp
          exact rfl
        try simp only [Act.put, List.setIfInBounds_toArray, List.set_cons_zero, List.set_cons_succ]
        refine takeH 18 46 (v := ?va18_10) rfl (by rfl) (by kernel_rfl) (by kernel_rfl) (by kernel_rfl) (fun _ _ _ h => h) (Or.inl ⟨by rfl, ?_⟩) (hS0) ?_
        rotate_left
        · intro wq hSq
          go_simp
          exact rfl
        try simp only [Act.put, List.setIfInBounds_toArray, List.set_cons_zero, List.set_cons_succ]
        refine takeH 19 47 (v := ?va19_11) rfl (by rfl) (by kernel_rfl) (by kernel_rfl) (by kernel_rfl) (fun _ _ _ h => h) (Or.inl ⟨by rfl, ?_⟩) (hS0) ?_
        rotate_left
        · intro wq hSq
          go_simp
          exact rfl
        try simp only [Act.put, List.setIfInBounds_toArray, List.set_cons_zero, List.set_cons_succ]
        refine takeH 20 48 (v := ?va20_12) rfl (by rfl) (by kernel_rfl) (by kernel_rfl) (by kernel_rfl) (fun _ _ _ h => h) (Or.inl ⟨by rfl, ?_⟩) (hS0) ?_
        rotate_left
        · intro wq hSq
          go_simp
          exact rfl
        try simp only [Act.put, List.setIfInBounds_toArray, List.set_cons_zero, List.set_cons_succ]
        refine takeH 26 54 (v := ?va26_13) rfl (by rfl) (by kernel_rfl) (by kernel_rfl) (by kernel_rfl) (fun _ _ _ h => h) (Or.inl ⟨by rfl, ?_⟩) (hS0) ?_
        rotate_left
        · intro wq hSq
          go_simp
          exact rfl
        try simp only [Act.put, List.setIfInBounds_toArray, List.set_cons_zero, List.set_cons_succ]
        refine takeH 27 55 (v := ?va27_14) rfl (by rfl) (by kernel_rfl) (by kernel_rfl) (by kernel_rfl) (fun _ _ _ h => h) (Or.inl ⟨by rfl, ?_⟩) (hS0) ?_
        rotate_left
        · intro wq hSq
          go_simp
          exact rfl
        try simp only [Act.put, List.setIfInBounds_toArray, List.set_cons_zero, List.set_cons_succ]
        refine takeH 28 56 (v := ?va28_15) rfl (by rfl) (by kernel_rfl) (by kernel_rfl) (by kernel_rfl) (fun _ _ _ h => h) (Or.inl ⟨by rfl, ?_⟩) (hS0) ?_
        rotate_left
        · intro wq hSq
          go_simp
          exact rfl
        try simp only [Act.put, List.setIfInBounds_toArray, List.set_cons_zero, List.set_cons_succ]
        refine takeH 29 57 (v := ?va29_16) rfl (by rfl) (by kernel_rfl) (by kernel_rfl) (by kernel_rfl) (fun _ _ _ h => h) (Or.inl ⟨by rfl, ?_⟩) (hS0) ?_
        rotate_left
        · intro wq hSq
          go_simp
          exact rfl
        try simp only [Act.put, List.setIfInBounds_toArray, List.set_cons_zero, List.set_cons_succ]
        refine takeH 4 32 (v := .pointer (some ⟨b, off + (4 * t), none⟩)) rfl (by rfl) (by kernel_rfl) (by kernel_rfl) (by kernel_rfl) (fun _ _ _ h => h) (Or.inl ⟨by rfl, ?_⟩) (hS0) ?_
        · intro wq hSq
          have m0 : IntKind.i64.wrap (4 * (t : Int)) = 4 * (t : Int) := IntWalk.i64_in _ (by omega)
          have m1 : IntKind.i64.wrap (4 * (t : Int)) = 4 * (t : Int) := IntWalk.i64_in _ (by omega)
          have n0 : (4 * (t : Int)).toNat = 4 * t := by omega
          have n1 : (0 : Int) ≤ 4 * (t : Int) := by omega
          have n2 : 4 * (t : Int) < 64 := by omega
          go_simp
        try simp only [Act.put, List.setIfInBounds_toArray, List.set_cons_zero, List.set_cons_succ]
        refine takeH 5 33 (v := .int .u8 (nth xs (4 * t))) rfl (by rfl) (by kernel_rfl) (by kernel_rfl) (by kernel_rfl) (fun _ _ _ h => h) (Or.inl ⟨by rfl, ?_⟩) (hS0) ?_
        · intro wq hSq
          have cq := cell_below' hSq (HC1.out (4 * t) (by omega))
          go_simp
        try simp only [Act.put, List.setIfInBounds_toArray, List.set_cons_zero, List.set_cons_succ]
        refine takeH 6 34 (v := ?va6_17) rfl (by rfl) (by kernel_rfl) (by kernel_rfl) (by kernel_rfl) (fun _ _ _ h => h) (Or.inl ⟨by rfl, ?_⟩) (hS0) ?_
        rotate_left
        · intro wq hSq
          go_simp
          exact rfl
        try simp only [Act.put, List.setIfInBounds_toArray, List.set_cons_zero, List.set_cons_succ]
        refine takeH 7 35 (v := ?va7_18) rfl (by rfl) (by kernel_rfl) (by kernel_rfl) (by kernel_rfl) (fun _ _ _ h => h) (Or.inl ⟨by rfl, ?_⟩) (hS0) ?_
        rotate_left
        · intro wq hSq
          go_simp
          exact rfl
        try simp only [Act.put, List.setIfInBounds_toArray, List.set_cons_zero, List.set_cons_succ]
        refine takeH 12 40 (v := .pointer (some ⟨b, off + (4 * t + 1), none⟩)) rfl (by rfl) (by kernel_rfl) (by kernel_rfl) (by kernel_rfl) (fun _ _ _ h => h) (Or.inl ⟨by rfl, ?_⟩) (hS0) ?_
        · intro wq hSq
          have m0 : IntKind.i64.wrap (4 * (t : Int)) = 4 * (t : Int) := IntWalk.i64_in _ (by omega)
          have m1 : IntKind.i64.wrap (4 * (t : Int) + 1) = 4 * (t : Int) + 1 := IntWalk.i64_in _ (by omega)
          have n0 : (4 * (t : Int) + 1).toNat = 4 * t + 1 := by omega
          have n1 : (0 : Int) ≤ 4 * (t : Int) + 1 := by omega
          have n2 : 4 * (t : Int) + 1 < 64 := by omega
          go_simp
        try simp only [Act.put, List.setIfInBounds_toArray, List.set_cons_zero, List.set_cons_succ]
        refine takeH 13 41 (v := .int .u8 (nth xs (4 * t + 1))) rfl (by rfl) (by kernel_rfl) (by kernel_rfl) (by kernel_rfl) (fun _ _ _ h => h) (Or.inl ⟨by rfl, ?_⟩) (hS0) ?_
        · intro wq hSq
          have cq := cell_below' hSq (HC1.out (4 * t + 1) (by omega))
          go_simp
        try simp only [Act.put, List.setIfInBounds_toArray, List.set_cons_zero, List.set_cons_succ]
        refine takeH 14 42 (v := ?va14_19) rfl (by rfl) (by kernel_rfl) (by kernel_rfl) (by kernel_rfl) (fun _ _ _ h => h) (Or.inl ⟨by rfl, ?_⟩) (hS0) ?_
        rotate_left
        · intro wq hSq
          go_simp
          exact rfl
        try simp only [Act.put, List.setIfInBounds_toArray, List.set_cons_zero, List.set_cons_succ]
        refine takeH 15 43 (v := ?va15_20) rfl (by rfl) (by kernel_rfl) (by kernel_rfl) (by kernel_rfl) (fun _ _ _ h => h) (Or.inl ⟨by rfl, ?_⟩) (hS0) ?_
        rotate_left
        · intro wq hSq
          go_simp
          exact rfl
        try simp only [Act.put, List.setIfInBounds_toArray, List.set_cons_zero, List.set_cons_succ]
        refine takeH 16 44 (v := ?va16_21) rfl (by rfl) (by kernel_rfl) (by kernel_rfl) (by kernel_rfl) (fun _ _ _ h => h) (Or.inl ⟨by rfl, ?_⟩) (hS0) ?_
        rotate_left
        · intro wq hSq
          go_simp
          exact rfl
        try simp only [Act.put, List.setIfInBounds_toArray, List.set_cons_zero, List.set_cons_succ]
        refine takeH 21 49 (v := .pointer (some ⟨b, off + (4 * t + 2), none⟩)) rfl (by rfl) (by kernel_rfl) (by kernel_rfl) (by kernel_rfl) (fun _ _ _ h => h) (Or.inl ⟨by rfl, ?_⟩) (hS0) ?_
        · intro wq hSq
          have m0 : IntKind.i64.wrap (4 * (t : Int)) = 4 * (t : Int) := IntWalk.i64_in _ (by omega)
          have m1 : IntKind.i64.wrap (4 * (t : Int) + 2) = 4 * (t : Int) + 2 := IntWalk.i64_in _ (by omega)
          have n0 : (4 * (t : Int) + 2).toNat = 4 * t + 2 := by omega
          have n1 : (0 : Int) ≤ 4 * (t : Int) + 2 := by omega
          have n2 : 4 * (t : Int) + 2 < 64 := by omega
          go_simp
        try simp only [Act.put, List.setIfInBounds_toArray, List.set_cons_zero, List.set_cons_succ]
        refine takeH 22 50 (v := .int .u8 (nth xs (4 * t + 2))) rfl (by rfl) (by kernel_rfl) (by kernel_rfl) (by kernel_rfl) (fun _ _ _ h => h) (Or.inl ⟨by rfl, ?_⟩) (hS0) ?_
        · intro wq hSq
          have cq := cell_below' hSq (HC1.out (4 * t + 2) (by omega))
          go_simp
        try simp only [Act.put, List.setIfInBounds_toArray, List.set_cons_zero, List.set_cons_succ]
        refine takeH 23 51 (v := ?va23_22) rfl (by rfl) (by kernel_rfl) (by kernel_rfl) (by kernel_rfl) (fun _ _ _ h => h) (Or.inl ⟨by rfl, ?_⟩) (hS0) ?_
        rotate_left
        · intro wq hSq
          go_simp
          exact rfl
        try simp only [Act.put, List.setIfInBounds_toArray, List.set_cons_zero, List.set_cons_succ]
        refine takeH 24 52 (v := ?va24_23) rfl (by rfl) (by kernel_rfl) (by kernel_rfl) (by kernel_rfl) (fun _ _ _ h => h) (Or.inl ⟨by rfl, ?_⟩) (hS0) ?_
        rotate_left
        · intro wq hSq
          go_simp
          exact rfl
        try simp only [Act.put, List.setIfInBounds_toArray, List.set_cons_zero, List.set_cons_succ]
        refine takeH 25 53 (v := ?va25_24) rfl (by rfl) (by kernel_rfl) (by kernel_rfl) (by kernel_rfl) (fun _ _ _ h => h) (Or.inl ⟨by rfl, ?_⟩) (hS0) ?_
        rotate_left
        · intro wq hSq
          go_simp
          exact rfl
        try simp only [Act.put, List.setIfInBounds_toArray, List.set_cons_zero, List.set_cons_succ]
        refine takeH 30 58 (v := .pointer (some ⟨b, off + (4 * t + 3), none⟩)) rfl (by rfl) (by kernel_rfl) (by kernel_rfl) (by kernel_rfl) (fun _ _ _ h => h) (Or.inl ⟨by rfl, ?_⟩) (hS0) ?_
        · intro wq hSq
          have m0 : IntKind.i64.wrap (4 * (t : Int)) = 4 * (t : Int) := IntWalk.i64_in _ (by omega)
          have m1 : IntKind.i64.wrap (4 * (t : Int) + 3) = 4 * (t : Int) + 3 := IntWalk.i64_in _ (by omega)
          have n0 : (4 * (t : Int) + 3).toNat = 4 * t + 3 := by omega
          have n1 : (0 : Int) ≤ 4 * (t : Int) + 3 := by omega
          have n2 : 4 * (t : Int) + 3 < 64 := by omega
          go_simp
        try simp only [Act.put, List.setIfInBounds_toArray, List.set_cons_zero, List.set_cons_succ]
        refine takeH 31 59 (v := .int .u8 (nth xs (4 * t + 3))) rfl (by rfl) (by kernel_rfl) (by kernel_rfl) (by kernel_rfl) (fun _ _ _ h => h) (Or.inl ⟨by rfl, ?_⟩) (hS0) ?_
        · intro wq hSq
          have cq := cell_below' hSq (HC1.out (4 * t + 3) (by omega))
          go_simp
        try simp only [Act.put, List.setIfInBounds_toArray, List.set_cons_zero, List.set_cons_succ]
        refine takeH 32 60 (v := ?va32_25) rfl (by rfl) (by kernel_rfl) (by kernel_rfl) (by kernel_rfl) (fun _ _ _ h => h) (Or.inl ⟨by rfl, ?_⟩) (hS0) ?_
        rotate_left
        · intro wq hSq
          go_simp
          exact rfl
        try simp only [Act.put, List.setIfInBounds_toArray, List.set_cons_zero, List.set_cons_succ]
        refine takeH 33 61 (v := .int .u32 (un (wordAt xs t))) rfl (by rfl) (by kernel_rfl) (by kernel_rfl) (by kernel_rfl) (fun _ _ _ h => h) (Or.inl ⟨by rfl, ?_⟩) (hS0) ?_
        · intro wq hSq
          go_simp
          rw [WS.out]
          simp only [IntKind.wrap_u32]
          omega
        try simp only [Act.put, List.setIfInBounds_toArray, List.set_cons_zero, List.set_cons_succ]
        refine wpAnyH_ready (rs := [34]) (by kernel_rfl) (by simp) (AllReadyH.cons rfl (fun K hK => ?_) AllReadyH.nil)
        go_simp
        refine hK.out _ _ (Below.alloc hS0 (Below.size hS0) _) (fun _ => ?_); clear hK K
        refine F_alloc (F := fun W => wpAnyH _ _ _ _ _ _ _ _ W) [.int .u32 (un (wordAt xs t))] rfl ?_
        intro W26 hx26 hb26
        have S26 := Below.trans hS0 (Below.mono hb26 (Below.size hS0))
        have own26 := own_below own0 hb26
        have sz26 := hb26.size
        refine wpAnyH_ready (rs := [35]) (by kernel_rfl) (by simp) (AllReadyH.cons rfl (fun K hK => ?_) AllReadyH.nil)
        refine step_append_kept rfl _ _ 79 (by rfl) w1.heap.size 58 ti (.int .u32 0) 4 .u32 Tryd.underlying79 hin hz0 hz1 hz2 rfl _ (words16 xs t) (by rfl) own26 (y := un (wordAt xs t)) (by rfl) hx26 (by have := WL; unfold maxLen; omega) (by have := WL; omega) (by omega) ?_
        intro v27 W27 own27 hb27 hk27
        have S27 := Below.trans S26 hb27
        refine hK.out _ _ (S27) (fun _ => ?_); clear hK K
        refine takeH 36 5 (v := ?va36_28) rfl (by rfl) (by kernel_rfl) (by kernel_rfl) (by kernel_rfl) (fun _ _ _ h => h) (Or.inl ⟨by rfl, ?_⟩) (S27) ?_
        rotate_left
        · intro wq hSq
          go_simp
          exact rfl
        try simp only [Act.put, List.setIfInBounds_toArray]
        refine wpAnyH_done (by kernel_rfl) ?_ _
        have OWN := Lib.hid own27
        have BB := Lib.hid S27
        go_wp2_with fail
        go_roundw
        case rel => exact ⟨t + 1, by omega, by go_num, by rw [words16_succ]; exact OWN.out, BB.out⟩
        case measure => simp [intOf]; omega
      · obtain rfl : t = 16 := by omega
        rw [words16_all] at hown
        clear hlt ht HC1
        go_wp2_with fail
        simp only [Int.cast_ofNat_Int]
        go_loopw [5, 7] (fun v i wr => ∃ n : Nat, n ≤ 48 ∧ i = .int .i64 ((n : Int) + 16) ∧ wr.ownsRow w1.heap.size 58 1 v (schedI xs n).length ((schedI xs n).map (Value.int .u32)) ∧ Below w1.heap.size w1 wr) (fun _ i _ => 64 - (intOf i).toNat)
        case atStart => exact ⟨0, by omega, rfl, hown, hB⟩
        case round =>
          clear hown hB
          obtain ⟨n, hn, rfl, hown, hB⟩ := hrel
          by_cases hlt : n < 48
          · obtain ⟨g, cp, hcp, rfl, hcell⟩ := own_form (n + 16) (schedI_len xs n) hown (by omega)
            have c1 := hcell (n + 1) (by omega)
            have c2 := hcell (n + 14) (by omega)
            rw [schedI_nth _ _ _ (by omega)] at c1 c2
            have N := sched_len xs n
            have V : (next (sched xs n)) = ((sched xs n).getD n 0 + (sched xs n).getD (n + 9) 0 + sg0 ((sched xs n).getD (n + 1) 0) + sg1 ((sched xs n).getD (n + 14) 0)) := by
              unfold next
              rw [N, show n + 16 - 16 = n by omega, show n + 16 - 7 = n + 9 by omega, show n + 16 - 15 = n + 1 by omega, show n + 16 - 2 = n + 14 by omega]
            have S := Lib.hid (schedI_succ xs n)
            have HG := Lib.hid hcell
            have HO := Lib.hid hown
            have hsz := hB.size
            have HB := Lib.hid hB
            have SL := Lib.hid (schedI_len xs n)
            obtain ⟨nx, hnx⟩ : ∃ nx, nx = next (sched xs n) := ⟨_, rfl⟩
            have s0 := Lib.hid (schedI_nth xs n n (by omega))
            have s9 := Lib.hid (schedI_nth xs n (n + 9) (by omega))
            rw [← hnx] at S
            rw [← hnx] at V
            clear N hnx hcell hown hB
            generalize (sched xs n).getD n 0 = v0 at *
            generalize (sched xs n).getD (n + 1) 0 = v1 at *
            generalize (sched xs n).getD (n + 9) 0 = v9 at *
            generalize (sched xs n).getD (n + 14) 0 = v14 at *
            have HV2 := Lib.hid V
            clear V
            have X := un_xor
            have A := un_addm
            have D1 : un v1 / (8 : Int) = un (v1 >>> 3) := un_shr v1 3 (by decide)
            have D2 : un v14 / (1024 : Int) = un (v14 >>> 10) := un_shr v14 10 (by decide)
            have e1 : IntKind.i64.wrap ((n : Int) + 16 - 15) = (n : Int) + 1 := by rw [IntWalk.i64_in _ (by omega)]; omega
            have e2 : IntKind.i64.wrap ((n : Int) + 16 - 2) = (n : Int) + 14 := by rw [IntWalk.i64_in _ (by omega)]; omega
            have e3 : ((n : Int) + 1).toNat = n + 1 := by omega
            have e4 : ((n : Int) + 14).toNat = n + 14 := by omega
            have b1 : 0 ≤ (n : Int) + 1 := by omega
            have b2 : (n : Int) + 1 < (n : Int) + 16 := by omega
            have b3 : 0 ≤ (n : Int) + 14 := by omega
            have b4 : (n : Int) + 14 < (n : Int) + 16 := by omega
            go_wp2_with fail
            go_quiet (fail)
            clear e1 e2 e3 e4 b1 b2 b3 b4 c1 c2
            go_wp2_with fail
            refine (turn_b v1 _ 7 (Lib.hid rfl) (by decide) (by decide) _).mono ?_; rintro e wA ⟨rfl, hA⟩
            go_wp2_with fail
            refine (turn_b v1 _ 18 (Lib.hid rfl) (by decide) (by decide) _).mono ?_; rintro e wB ⟨rfl, hB⟩
            go_wp2_with fail
            refine (turn_b v14 _ 17 (Lib.hid rfl) (by decide) (by decide) _).mono ?_; rintro e wC ⟨rfl, hC⟩
            go_wp2_with fail
            refine (turn_b v14 _ 19 (Lib.hid rfl) (by decide) (by decide) _).mono ?_; rintro e wD ⟨rfl, hD⟩
            go_upto_region 12 with fail
            have hAll : Below wr.heap.size wr wD := below_thru (below_thru (below_thru (below_thru (below_drewN (Below.refl _ _) _) hA) hB) hC) hD
            have HO2 := Lib.hid (own_below HO.out hAll)
            have HS2 : Below w1.heap.size w1 wD ∧ ∀ j, j < n + 16 → wD.cell? ⟨g, j, none⟩ = some (.int .u32 (nth (schedI xs n) j)) := ⟨below_thru HB.out hAll, fun j hj => cell_below' hAll (HG.out j hj)⟩
            have HS2 := Lib.hid HS2
            have hsD := HS2.out.1.size
            clear hA hB hC hD hAll A X D1 D2 HO HB HG
            refine wp_region_held_drew (S := fun w' => Below w1.heap.size w1 w' ∧ ∀ j, j < n + 16 → w'.cell? ⟨g, j, none⟩ = some (.int .u32 (nth (schedI xs n) j))) (by kernel_rfl) (And.intro HS2.out.1.drew HS2.out.2) (fun hS0 => ?_)
            refine F_drew (F := fun W => (fun w' => Below w1.heap.size w1 w' ∧ ∀ j, j < n + 16 → w'.cell? ⟨g, j, none⟩ = some (.int .u32 (nth (schedI xs n) j))) W → wpAnyH _ _ _ _ _ _ _ _ W) ?_ hS0
            intro W0 hb0 hS0
            have own0 := own_below HO2.out hb0
            have sz0 := hb0.size
            refine takeH 0 94 (v := ?vb0_1) rfl (by rfl) (by kernel_rfl) (by kernel_rfl) (by kernel_rfl) (fun _ _ _ h => h) (Or.inl ⟨by rfl, ?_⟩) (hS0) ?_
            rotate_left
            · intro wq hSq
              go_simp
              exact rfl
            try simp only [Act.put, List.setIfInBounds_toArray, List.set_cons_zero, List.set_cons_succ]
            refine takeH 1 95 (v := ?vb1_2) rfl (by rfl) (by kernel_rfl) (by kernel_rfl) (by kernel_rfl) (fun _ _ _ h => h) (Or.inl ⟨by rfl, ?_⟩) (hS0) ?_
            rotate_left
            · intro wq hSq
              go_simp
              exact rfl
            try simp only [Act.put, List.setIfInBounds_toArray, List.set_cons_zero, List.set_cons_succ]
            refine takeH 2 96 (v := ?vb2_3) rfl (by rfl) (by kernel_rfl) (by kernel_rfl) (by kernel_rfl) (fun _ _ _ h => h) (Or.inl ⟨by rfl, ?_⟩) (hS0) ?_
            rotate_left
            · intro wq hSq
              go_simp
              exact rfl
            try simp only [Act.put, List.setIfInBounds_toArray, List.set_cons_zero, List.set_cons_succ]
            refine takeH 3 97 (v := ?vb3_4) rfl (by rfl) (by kernel_rfl) (by kernel_rfl) (by kernel_rfl) (fun _ _ _ h => h) (Or.inl ⟨by rfl, ?_⟩) (hS0) ?_
            rotate_left
            · intro wq hSq
              go_simp
              exact rfl
            try simp only [Act.put, List.setIfInBounds_toArray, List.set_cons_zero, List.set_cons_succ]
            refine takeH 6 100 (v := ?vb6_5) rfl (by rfl) (by kernel_rfl) (by kernel_rfl) (by kernel_rfl) (fun _ _ _ h => h) (Or.inl ⟨by rfl, ?_⟩) (hS0) ?_
            rotate_left
            · intro wq hSq
              go_simp
              exact rfl
            try simp only [Act.put, List.setIfInBounds_toArray, List.set_cons_zero, List.set_cons_succ]
            refine takeH 7 101 (v := ?vb7_6) rfl (by rfl) (by kernel_rfl) (by kernel_rfl) (by kernel_rfl) (fun _ _ _ h => h) (Or.inl ⟨by rfl, ?_⟩) (hS0) ?_
            rotate_left
            · intro wq hSq
              go_simp
              exact rfl
            try simp only [Act.put, List.setIfInBounds_toArray, List.set_cons_zero, List.set_cons_succ]
            refine takeH 8 102 (v := ?vb8_7) rfl (by rfl) (by kernel_rfl) (by kernel_rfl) (by kernel_rfl) (fun _ _ _ h => h) (Or.inl ⟨by rfl, ?_⟩) (hS0) ?_
            rotate_left
            · intro wq hSq
              go_simp
              exact rfl
            try simp only [Act.put, List.setIfInBounds_toArray, List.set_cons_zero, List.set_cons_succ]
            refine takeH 12 106 (v := ?vb12_8) rfl (by rfl) (by kernel_rfl) (by kernel_rfl) (by kernel_rfl) (fun _ _ _ h => h) (Or.inl ⟨by rfl, ?_⟩) (hS0) ?_
            rotate_left
            · intro wq hSq
              go_simp
              exact rfl
            try simp only [Act.put, List.setIfInBounds_toArray, List.set_cons_zero, List.set_cons_succ]
            refine takeH 14 108 (v := ?vb14_9) rfl (by rfl) (by kernel_rfl) (by kernel_rfl) (by kernel_rfl) (fun _ _ _ h => h) (Or.inl ⟨by rfl, ?_⟩) (hS0) ?_
            rotate_left
            · intro wq hSq
              go_simp
              exact rfl
            try simp only [Act.put, List.setIfInBounds_toArray, List.set_cons_zero, List.set_cons_succ]
            refine takeH 4 98 (v := .pointer (some ⟨g, n, none⟩)) rfl (by rfl) (by kernel_rfl) (by kernel_rfl) (by kernel_rfl) (fun _ _ _ h => h) (Or.inl ⟨by rfl, ?_⟩) (hS0) ?_
            · intro wq hSq
              have m0 : IntKind.i64.wrap (n : Int) = (n : Int) := IntWalk.i64_in _ (by omega)
              have n1 : (n : Int) < (n : Int) + 16 := by omega
              have n2 : n < n + 16 := by omega
              go_simp
            try simp only [Act.put, List.setIfInBounds_toArray, List.set_cons_zero, List.set_cons_succ]
            refine takeH 5 99 (v := .int .u32 (un v0)) rfl (by rfl) (by kernel_rfl) (by kernel_rfl) (by kernel_rfl) (fun _ _ _ h => h) (Or.inl ⟨by rfl, ?_⟩) (hS0) ?_
            · intro wq hSq
              have cq := hSq.2 n (by omega)
              go_simp
              exact s0.out
            try simp only [Act.put, List.setIfInBounds_toArray, List.set_cons_zero, List.set_cons_succ]
            refine takeH 9 103 (v := .pointer (some ⟨g, n + 9, none⟩)) rfl (by rfl) (by kernel_rfl) (by kernel_rfl) (by kernel_rfl) (fun _ _ _ h => h) (Or.inl ⟨by rfl, ?_⟩) (hS0) ?_
            · intro wq hSq
              have m0 : IntKind.i64.wrap ((n : Int) + 16 - 7) = (n : Int) + 9 := by rw [IntWalk.i64_in _ (by omega)]; omega
              have n0 : ((n : Int) + 9).toNat = n + 9 := by omega
              have n1 : (n : Int) + 9 < (n : Int) + 16 := by omega
              have n2 : 0 ≤ (n : Int) + 9 := by omega
              go_simp
            try simp only [Act.put, List.setIfInBounds_toArray, List.set_cons_zero, List.set_cons_succ]
            refine takeH 10 104 (v := .int .u32 (un v9)) rfl (by rfl) (by kernel_rfl) (by kernel_rfl) (by kernel_rfl) (fun _ _ _ h => h) (Or.inl ⟨by rfl, ?_⟩) (hS0) ?_
            · intro wq hSq
              have cq := hSq.2 (n + 9) (by omega)
              go_simp
              exact s9.out
            try simp only [Act.put, List.setIfInBounds_toArray, List.set_cons_zero, List.set_cons_succ]
            refine takeH 11 105 (v := ?vb11_10) rfl (by rfl) (by kernel_rfl) (by kernel_rfl) (by kernel_rfl) (fun _ _ _ h => h) (Or.inl ⟨by rfl, ?_⟩) (hS0) ?_
            rotate_left
            · intro wq hSq
              go_simp
              exact rfl
            try simp only [Act.put, List.setIfInBounds_toArray, List.set_cons_zero, List.set_cons_succ]
            refine takeH 13 107 (v := ?vb13_11) rfl (by rfl) (by kernel_rfl) (by kernel_rfl) (by kernel_rfl) (fun _ _ _ h => h) (Or.inl ⟨by rfl, ?_⟩) (hS0) ?_
            rotate_left
            · intro wq hSq
              go_simp
              exact rfl
            try simp only [Act.put, List.setIfInBounds_toArray, List.set_cons_zero, List.set_cons_succ]
            refine takeH 15 109 (v := .int .u32 (un nx)) rfl (by rfl) (by kernel_rfl) (by kernel_rfl) (by kernel_rfl) (fun _ _ _ h => h) (Or.inl ⟨by rfl, ?_⟩) (hS0) ?_
            · intro wq hSq
              go_simp
              rw [HV2.out]
              simp only [un_add]
              rfl
            try simp only [Act.put, List.setIfInBounds_toArray, List.set_cons_zero, List.set_cons_succ]
            refine wpAnyH_ready (rs := [16]) (by kernel_rfl) (by simp) (AllReadyH.cons rfl (fun K hK => ?_) AllReadyH.nil)
            go_simp
            refine hK.out _ _ (And.intro (Below.alloc hS0.1 (Below.size hS0.1) _) (fun j hj => cell_alloc (hS0.2 j hj))) (fun _ => ?_); clear hK K
            refine F_alloc (F := fun W => wpAnyH _ _ _ _ _ _ _ _ W) [.int .u32 (un nx)] rfl ?_
            intro W12 hx12 hb12
            have S12 := And.intro (Below.trans hS0.1 (Below.mono hb12 (Below.size hS0.1))) (fun j hj => cell_below' hb12 (hS0.2 j hj))
            have own12 := own_below own0 hb12
            have sz12 := hb12.size
            refine wpAnyH_ready (rs := [17]) (by kernel_rfl) (by simp) (AllReadyH.cons rfl (fun K hK => ?_) AllReadyH.nil)
            refine step_append_kept rfl _ _ 79 (by rfl) w1.heap.size 58 ti (.int .u32 0) 4 .u32 Tryd.underlying79 hin hz0 hz1 hz2 rfl _ (schedI xs n) (by rfl) own12 (y := un nx) (by rfl) hx12 (by have := SL.out; unfold maxLen; omega) (by have := SL.out; omega) (by omega) ?_
            intro v13 W13 own13 hb13 hk13
            have S13 := And.intro (Below.trans S12.1 hb13) (fun j hj => hk13 g rfl j (by rw [SL.out]; exact hj))
            refine hK.out _ _ (S13) (fun _ => ?_); clear hK K
            refine takeH 18 5 (v := ?vb18_14) rfl (by rfl) (by kernel_rfl) (by kernel_rfl) (by kernel_rfl) (fun _ _ _ h => h) (Or.inl ⟨by rfl, ?_⟩) (S13) ?_
            rotate_left
            · intro wq hSq
              go_simp
              exact rfl
            try simp only [Act.put, List.setIfInBounds_toArray]
            refine wpAnyH_done (by kernel_rfl) ?_ _
            have OWN := Lib.hid own13
            have BB := Lib.hid S13.1
            go_wp2_with fail
            go_roundw
            case rel => exact ⟨n + 1, by omega, by go_num, by rw [S.out]; exact OWN.out, BB.out⟩
            case measure => simp [intOf]; omega
          · obtain rfl : n = 48 := by omega
            obtain ⟨g, cp, hcp, rfl, hcell⟩ := own_form 64 (schedI_len xs 48) hown (by omega)
            clear hlt hn hin hz0 hz1 hz2
            obtain ⟨WR, rfl⟩ : ∃ u : World, u = wr := ⟨_, rfl⟩
            go_wp2_with fail
            refine (constants_is _).mono ?_
            rintro e w2 ⟨rfl, hk, hb⟩
            have hB2 : Below w1.heap.size w1 w2 := below_thru hB hb
            have hG2 : ∀ j, j < 64 → w2.cell? ⟨g, j, none⟩ = some (.int .u32 (un ((sched xs 48).getD j 0))) := fun j hj => by
              rw [← schedI_nth _ _ _ (by omega)]
              exact cell_below' hb (hcell j hj)
            have hK2 : ∀ j, j < 64 → w2.cell? ⟨WR.heap.size, j, none⟩ = some (.int .u32 (un (shaK.getD j 0))) := fun j hj => hk.c j _ (getD_map_wv wv shaK j (by rw [shaK_len]; exact hj))
            have hx2 := Box.below H0.out hB2
            have hr2 := Box.below HR.out hB2
            have hBB := below_thru HB1.out hB2
            have c0 : w2.cell? ⟨w.heap.size, 0, none⟩ = some (.int .u32 (un h.a)) := hx2.c 0 _ rfl
            have c1 : w2.cell? ⟨w.heap.size, 1, none⟩ = some (.int .u32 (un h.b)) := hx2.c 1 _ rfl
            have c2 : w2.cell? ⟨w.heap.size, 2, none⟩ = some (.int .u32 (un h.c)) := hx2.c 2 _ rfl
            have c3 : w2.cell? ⟨w.heap.size, 3, none⟩ = some (.int .u32 (un h.d)) := hx2.c 3 _ rfl
            have c4 : w2.cell? ⟨w.heap.size, 4, none⟩ = some (.int .u32 (un h.e)) := hx2.c 4 _ rfl
            have c5 : w2.cell? ⟨w.heap.size, 5, none⟩ = some (.int .u32 (un h.f)) := hx2.c 5 _ rfl
            have c6 : w2.cell? ⟨w.heap.size, 6, none⟩ = some (.int .u32 (un h.g)) := hx2.c 6 _ rfl
            have c7 : w2.cell? ⟨w.heap.size, 7, none⟩ = some (.int .u32 (un h.z)) := hx2.c 7 _ rfl
            have HK2 := Lib.hid hK2
            have HG2 := Lib.hid hG2
            have H2 := Lib.hid hx2
            have HR2 := Lib.hid hr2
            have HB2 := Lib.hid hBB
            clear hown hB hcell hk hb hB2 hG2 hK2 hx2 hr2 hBB H0 HR HB1 HX
            go_wp2_with fail
            go_quiet (fail)
            go_wp2_with fail
            try simp only [Int.cast_ofNat_Int]
            go_loopw [13, 14, 15, 16, 17, 18, 19, 20, 21] (fun a b c d e f g z i wr => ∃ (t : Nat) (s : W8), t ≤ 64 ∧ i = .int .i64 t ∧ s = rounds (sched xs 48) h t ∧ a = .int .u32 (un s.a) ∧ b = .int .u32 (un s.b) ∧ c = .int .u32 (un s.c) ∧ d = .int .u32 (un s.d) ∧ e = .int .u32 (un s.e) ∧ f = .int .u32 (un s.f) ∧ g = .int .u32 (un s.g) ∧ z = .int .u32 (un s.z) ∧ ∃ q, wr = w2.drewN q) (fun _ _ _ _ _ _ _ _ i _ => 64 - (intOf i).toNat)
            case atStart => exact ⟨0, h, by omega, rfl, rfl, rfl, rfl, rfl, rfl, rfl, rfl, rfl, rfl, _, rfl⟩
            case round =>
              clear c0 c1 c2 c3 c4 c5 c6 c7
              obtain ⟨t, s, ht, rfl, hs, rfl, rfl, rfl, rfl, rfl, rfl, rfl, rfl, q, hw⟩ := hrel
              obtain ⟨W, rfl⟩ : ∃ u : World, u = wr := ⟨_, rfl⟩
              have HW := Lib.hid hw
              clear hw
              have HS' := Lib.hid hs
              clear hs
              by_cases hlt : t < 64
              · have ck : W.cell? ⟨WR.heap.size, t, none⟩ = some (.int .u32 (un (shaK.getD t 0))) := by rw [HW.out]; exact HK2.out t hlt
                have cw : W.cell? ⟨g, t, none⟩ = some (.int .u32 (un ((sched xs 48).getD t 0))) := by rw [HW.out]; exact HG2.out t hlt
                have X := un_xor
                have A := un_addm
                have N := un_and
                have V : ∀ b, bits .xor .u32 IntKind.u32.max (un b) = un (~~~ b) := un_not
                have S := Lib.hid (show rounds (sched xs 48) h (t + 1) = rnd (rounds (sched xs 48) h t) (shaK.getD t 0) ((sched xs 48).getD t 0) from rfl)
                rw [← HS'.out] at S
                generalize shaK.getD t 0 = kt at *
                generalize (sched xs 48).getD t 0 = wt at *
                have b1 : (t : Int) < 64 := by omega
                go_wp2_with fail
                refine wp_region_quiet_lit (by kernel_rfl) (by kernel_rfl) ?_
                iterate 2 (quiet_step (fail))
                quiet_step ((go_at_call 48; exact Calls.quiet_of (turn_any s.e 6 6 (Lib.hid rfl) (by decide) (by decide) _)))
                quiet_step (fail)
                quiet_step ((go_at_call 48; exact Calls.quiet_of (turn_any s.e 11 11 (Lib.hid rfl) (by decide) (by decide) _)))
                iterate 2 (quiet_step (fail))
                quiet_step ((go_at_call 48; exact Calls.quiet_of (turn_any s.e 25 25 (Lib.hid rfl) (by decide) (by decide) _)))
                repeat (quiet_step (fail))
                refine wpQuiet_nil ?_
                intro _ hw'
                obtain ⟨nq, hw''⟩ := hw'
                subst hw''
                go_wp2_with fail
                refine (turn_any s.a _ 2 (Lib.hid rfl) (by decide) (by decide) _).mono ?_
                rintro e w' ⟨rfl, q1, rfl⟩
                go_wp2_with fail
                refine (turn_any s.a _ 13 (Lib.hid rfl) (by decide) (by decide) _).mono ?_
                rintro e w' ⟨rfl, q2, rfl⟩
                go_wp2_with fail
                refine (turn_any s.a _ 22 (Lib.hid rfl) (by decide) (by decide) _).mono ?_
                rintro e w' ⟨rfl, q3, rfl⟩
                go_wp2_with fail
                go_roundw
                case rel =>
                  refine ⟨t + 1, rnd s kt wt, by omega, by go_num, S.out.symm, ?_, ?_, ?_, ?_, ?_, ?_, ?_, ?_, ?_⟩
                  all_goals first | rfl | (rw [HW.out]; simp only [World.drewN_drewN]; exact ⟨_, rfl⟩) | (refine congrArg (Value.int .u32) ?_; simp only [rnd, un, UInt32.toNat_add]; omega)
                case measure => simp [intOf]; omega
              · obtain rfl : t = 64 := by omega
                clear hlt ht HK2 HG2
                have HT := Lib.hid (show taken h xs = plus h s by rw [HS'.out]; rfl)
                have A := un_addm
                have hBX := H2.out.drewN q
                rw [← HW.out] at hBX
                have c0 : W.cell? ⟨w.heap.size, 0, none⟩ = some (.int .u32 (un h.a)) := hBX.c 0 _ rfl
                have c1 : W.cell? ⟨w.heap.size, 1, none⟩ = some (.int .u32 (un h.b)) := hBX.c 1 _ rfl
                have c2 : W.cell? ⟨w.heap.size, 2, none⟩ = some (.int .u32 (un h.c)) := hBX.c 2 _ rfl
                have c3 : W.cell? ⟨w.heap.size, 3, none⟩ = some (.int .u32 (un h.d)) := hBX.c 3 _ rfl
                have c4 : W.cell? ⟨w.heap.size, 4, none⟩ = some (.int .u32 (un h.e)) := hBX.c 4 _ rfl
                have c5 : W.cell? ⟨w.heap.size, 5, none⟩ = some (.int .u32 (un h.f)) := hBX.c 5 _ rfl
                have c6 : W.cell? ⟨w.heap.size, 6, none⟩ = some (.int .u32 (un h.g)) := hBX.c 6 _ rfl
                have c7 : W.cell? ⟨w.heap.size, 7, none⟩ = some (.int .u32 (un h.z)) := hBX.c 7 _ rfl
                have hxr := HR2.out.drewN q
                have hBW := below_drewN HB2.out q
                rw [← HW.out] at hxr hBW
                go_upto_region 21 with fail
                go_wp2_with (refine wpList_store_box (cs := hv (plus h s)) rfl _ _ _ rfl hxr rfl rfl size8 rfl (hv_one _) ?_; intro W3 hW3)
                exact bodyPost_ret (v := .agg (hv (plus h s)).toArray) (results_box Tryd.results45 hW3.box rfl Tryd.underlying59 rfl size8) rfl ⟨by rw [HT.out], hW3.below _ _ (Nat.le_succ _) hBW⟩

end Go.Proofs.YtfobjdkpdeiidaaDoor
