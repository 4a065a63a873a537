/-
  Package lru, walked: slices.Repeat, New.
-/
import Derived.Test.YtjhlpkkefdohjaaLrA
import Derived.Test.YtjhlpkkefdohjaaShelf
import Derived.Laws.CopyOwn
namespace Go.Proofs.Ytjhlpkkefdohjaa
open Go.RowKit

/-- How far Repeat has come. -/
def fillR (n k : Nat) : List Value := List.replicate k (.int .i64 (-1)) ++ List.replicate (n - k) (.int .i64 0)
theorem fillR_len {n k : Nat} (h : k ≤ n) : (fillR n k).length = n := by
  unfold fillR
  rw [List.length_append, List.length_replicate, List.length_replicate]
  omega
theorem fillR_at {n k j : Nat} (h : j < k) : (fillR n k)[j]? = some (.int .i64 (-1)) := by
  unfold fillR
  rw [List.getElem?_append_left (by rw [List.length_replicate]; exact h), List.getElem?_replicate, if_pos h]
theorem fillR_zero (n : Nat) : (nk n 0).map (Value.int .i64) = fillR n 0 := by
  unfold fillR nk
  rw [List.replicate_zero, List.nil_append, Nat.sub_zero, List.map_map]
  have h : ((Value.int .i64) ∘ fun i : Nat => if i < 0 then ((i + 1 : Nat) : Int) else 0) = fun _ => Value.int .i64 0 := by
    funext i
    simp
  rw [h, List.map_const', List.length_range]
theorem fillR_more {n k m : Nat} (h : k + m ≤ n) : splice (fillR n k) k (List.replicate m (.int .i64 (-1))) = fillR n (k + m) := by
  unfold splice fillR
  rw [List.take_left' (by simp), List.length_replicate, List.drop_append, List.drop_eq_nil_of_le (by simp), List.nil_append, List.length_replicate, List.drop_replicate, ← List.replicate_append_replicate, List.append_assoc, show n - k - (k + m - k) = n - (k + m) by omega]
theorem fillR_end (n : Nat) : fillR n n = flatR LI (List.replicate n (-1)) := by
  rw [flatI, List.map_replicate]
  unfold fillR
  simp

theorem lt_of_heap {w : World} {g : Nat} {o : Obj} (h : w.heap[g]? = some o) : g < w.heap.size := (Array.getElem?_eq_some_iff.1 h).1
theorem repl_at {α : Type} {m j : Nat} {x v : α} (h : (List.replicate m x)[j]? = some v) : j < m ∧ x = v := by
  rw [List.getElem?_replicate] at h
  by_cases q : j < m
  · rw [if_pos q] at h
    cases h
    exact ⟨q, rfl⟩
  · rw [if_neg q] at h
    cases h
theorem cell_of_heap {w : World} {g j : Nat} {cs : Array Value} {t : TypeId} {f : Nat × Nat} (h : w.heap[g]? = some (.cells cs t f)) : w.cell? ⟨g, j, none⟩ = cs[j]? := by
  simp [World.cell?, h]
theorem fill_own {w : World} {B g k : Nat} (h : w.heap[g]? = some (.cells (fillR k k).toArray 3 (0, 0))) (hB : B ≤ g) (hm : k ≤ 200) : w.ownsRow B 3 1 (.slice (some ⟨g, 0, none⟩) k k) k (flatR LI (List.replicate k (-1))) := by
  refine ⟨by rw [flatI]; simp, Or.inr ⟨g, k, (fillR k k).toArray, rfl, hB, h, Nat.le_refl _, by unfold maxLen; omega, by simp [fillR_len (Nat.le_refl k)], ?_⟩⟩
  rw [Nat.mul_one, List.take_of_length_le (by simp [fillR_len (Nat.le_refl k)])]
  exact fillR_end k
theorem ones_neg (m : Nat) : ∀ v ∈ List.replicate m (Value.int .i64 (-1)), v.oneCell' = true := fun v h => by rw [(List.mem_replicate.1 h).2]; rfl

set_option maxRecDepth 100000 in
set_option maxHeartbeats 6400000 in
theorem prep_is {v : Value} {n : Nat} (hn : 1 ≤ n) (hm : n ≤ 200) (w : World) (h1 : IsR LI w v [-1]) : Calls Try.prog 28 #[v, .int .i64 (n : Int)] w fun e w' => ∃ a, e = .returned a ∧ w'.ownsRow w.heap.size 3 1 a n (flatR LI (List.replicate n (-1))) ∧ Below w.heap.size w w' := by
  obtain ⟨b1, o1, ea, f1⟩ : ∃ b off, (∃ c, v = .slice (some ⟨b, off, none⟩) 1 c ∧ 1 ≤ c ∧ c ≤ 9223372036854775807) ∧ w.cell? ⟨b, off, Option.none⟩ = some (.int .i64 (-1)) := by
    obtain ⟨a1, c1, rfl, hr1⟩ := id h1
    obtain ⟨b1, o1, rfl, f1⟩ := h1.getI (i := 0) (x := -1) rfl
    exact ⟨b1, o1, ⟨c1, rfl, hr1.room, hr1.most⟩, f1⟩
  obtain ⟨c1, rfl, r1, m1⟩ := ea; clear h1; have F1 := Lib.hid f1; have z1 := lt_of_cell f1; clear f1
  have BM : ∀ W, Calls Try.prog 36 #[.int .u64 1, .int .u64 (n : Int)] W fun e w' => e = .returned (.tuple #[.int .u64 0, .int .u64 (n : Int)]) ∧ w' = W := fun W => by
    have := Try.bits_Mul 1 n (by decide) (by omega) W
    rw [show 1 * n / 18446744073709551616 = 0 by omega, show 1 * n % 18446744073709551616 = n by omega] at this
    exact this
  have MI := fun W => make_ints n (by omega) W; simp only [fillR_zero] at MI
  have d0 : decide ((n : Int) < 0) = false := decide_eq_false (by omega); have d1 : decide (9223372036854775807 < (n : Int)) = false := decide_eq_false (by omega); have W1 : IntKind.i64.wrap (n : Int) = (n : Int) := by rw [IntKind.wrap_i64]; omega
  have W2 : IntKind.u64.wrap (n : Int) = (n : Int) := by rw [IntKind.wrap_u64]; omega
  have hB0 := Below.refl w.heap.size w
  have hs0 := hB0.size
  go_enter Try.func28, Try.ntmps28
  go_wp2_with fail
  refine (BM _).mono ?_
  rintro e w9 ⟨rfl, hw9⟩; rw [hw9]; clear hw9 w9
  go_upto_region 7 with fail
  refine F_gen (F := fun W => Code.wp _ _ _ _ W) (J := fun W => Hid (W.heap[w.heap.size]? = some (.cells (fillR n 0).toArray 3 (0, 0))) ∧ Below w.heap.size w W) (And.intro (Lib.hid (heap_alloc_new w _)) ((Below.refl _ _).alloc (Nat.le_refl _) _)) ?_
  intro w1 ⟨HG, hB1⟩; have hs1 := hB1.size; clear hB0 hs0 BM MI d0 d1 W1 W2
  obtain ⟨g, hg⟩ : ∃ g, w.heap.size = g := ⟨_, rfl⟩; have hgl : w.heap.size ≤ g := by omega
  have hgr : g ≤ w.heap.size := by omega
  rw [hg] at HG ⊢; have hg1 := lt_of_heap HG.out
  have f1 := cell_below hB1 F1.out; have hne : b1 ≠ g := by omega
  have HS : Hid (∀ j v, ([.int .i64 (-1)] : List Value)[j]? = some v → w1.cell? ((⟨b1, o1, none⟩ : Addr).add j) = some v) := Lib.hid (fun j v hj => by
    cases j with
    | zero => simp at hj; subst hj; simpa [Addr.add] using f1
    | succ j => simp at hj)
  clear f1 hne hg
  have HM1 := Lib.hid (show ([.int .i64 (-1)] : List Value).length = Nat.min 1 n by show 1 = min 1 n; omega); have HF1 := Lib.hid (show 0 + ([.int .i64 (-1)] : List Value).length ≤ (fillR n 0).length by rw [fillR_len (by omega)]; simp; omega)
  go_wp2_with (refine wpList_copy_splice rfl (.tmp 31) (.tmp 32) 22 22 rfl 3 Try.underlying22 size_in (some ⟨g, 0, none⟩) (some ⟨b1, o1, none⟩) n n 1 c1 rfl rfl g 0 (fillR n 0) 3 HG.out [.int .i64 (-1)] HM1.out (fun _ => ⟨rfl, _, rfl, HS.out⟩) HF1.out (ones_neg 1) w.heap.size w hB1 hgl ?_; intro w2 HG2 hB2)
  have HG3 : Hid (w2.heap[g]? = some (.cells (fillR n 1).toArray 3 (0, 0))) := Lib.hid (by have := HG2.out; rw [show ([.int .i64 (-1)] : List Value) = List.replicate 1 (.int .i64 (-1)) from rfl, fillR_more (by omega)] at this; exact this); clear HG2 HG hB1 hs1 HS HM1 HF1 hg1
  go_loopw [8] (fun p8 wr => ∃ k : Nat, 1 ≤ k ∧ k ≤ n ∧ p8 = .int .i64 k ∧ Hid (wr.heap[g]? = some (.cells (fillR n k).toArray 3 (0, 0))) ∧ Below w.heap.size w wr) (fun p8 _ => n - (intOf p8).toNat)
  case atStart => exact ⟨1, Nat.le_refl _, hn, rfl, HG3, hB2⟩
  case round =>
    clear HG3 hB2
    obtain ⟨k, hk1, hk, rfl, HG, hB⟩ := hrel
    have hs := hB.size; have zg := lt_of_heap HG.out; by_cases hlt : k < n
    case pos =>
      obtain ⟨m, hm1⟩ : ∃ m, min k (n - k) = m := ⟨_, rfl⟩; have i0 : (0 : Int) ≤ (k : Int) := (by omega); have i1 : (k : Int) ≤ (n : Int) := (by omega); have HM := Lib.hid (show (List.replicate m (Value.int .i64 (-1))).length = Nat.min k (n - k) by rw [List.length_replicate]; exact hm1.symm); have m0 : 1 ≤ m := (by omega); have hkm : k + m ≤ n := (by omega); have hmk : m ≤ k := (by omega); clear hm1
      have W1 : IntKind.i64.wrap ((k : Int) + (m : Int)) = ((k + m : Nat) : Int) := by rw [IntKind.wrap_i64]; omega
      have HF := Lib.hid (show k + (List.replicate m (Value.int .i64 (-1))).length ≤ (fillR n k).length by rw [fillR_len hk, List.length_replicate]; exact hkm)
      go_upto_region 9 with fail
      have hB5 := hB; have hs5 := hs; clear hB hs
      have K_wr_5 : Below wr.heap.size wr wr := Below.refl _ _
      refine wp_region_held_drew (S := fun W => True) (by kernel_rfl) trivial (fun _ => ?_)
      refine F_drew (F := fun W => wpAnyH _ _ _ _ _ _ _ _ W) ?_
      intro Ws0 hbs0
      clear hs5
      have Bs0 := below_thru hB5 hbs0
      have K_wr_s0 := below_thru K_wr_5 hbs0
      clear hB5 K_wr_5 hbs0
      refine takeH 0 38 (v := ?vs0_1) rfl (by rfl) (by kernel_rfl) (by kernel_rfl) (by kernel_rfl) (fun _ _ _ h => h) (Or.inl ⟨by rfl, ?_⟩) (trivial) ?_
      rotate_left
      · intro wq hSq
        go_simp
        exact rfl
      try simp only [Act.put, List.setIfInBounds_toArray, List.set_cons_zero, List.set_cons_succ]
      refine takeH 1 39 (v := ?vs1_2) rfl (by rfl) (by kernel_rfl) (by kernel_rfl) (by kernel_rfl) (fun _ _ _ h => h) (Or.inl ⟨by rfl, ?_⟩) (trivial) ?_
      rotate_left
      · intro wq hSq
        go_simp
        exact rfl
      try simp only [Act.put, List.setIfInBounds_toArray, List.set_cons_zero, List.set_cons_succ]
      refine takeH 2 40 (v := ?vs2_3) rfl (by rfl) (by kernel_rfl) (by kernel_rfl) (by kernel_rfl) (fun _ _ _ h => h) (Or.inl ⟨by rfl, ?_⟩) (trivial) ?_
      rotate_left
      · intro wq hSq
        go_simp
        exact rfl
      try simp only [Act.put, List.setIfInBounds_toArray, List.set_cons_zero, List.set_cons_succ]
      refine takeH 3 41 (v := ?vs3_4) rfl (by rfl) (by kernel_rfl) (by kernel_rfl) (by kernel_rfl) (fun _ _ _ h => h) (Or.inl ⟨by rfl, ?_⟩) (trivial) ?_
      rotate_left
      · intro wq hSq
        go_simp
        exact rfl
      try simp only [Act.put, List.setIfInBounds_toArray, List.set_cons_zero, List.set_cons_succ]
      refine takeH 4 42 (v := ?vs4_5) rfl (by rfl) (by kernel_rfl) (by kernel_rfl) (by kernel_rfl) (fun _ _ _ h => h) (Or.inl ⟨by rfl, ?_⟩) (trivial) ?_
      rotate_left
      · intro wq hSq
        go_simp
        exact rfl
      try simp only [Act.put, List.setIfInBounds_toArray, List.set_cons_zero, List.set_cons_succ]
      refine takeH 5 43 (v := ?vs5_6) rfl (by rfl) (by kernel_rfl) (by kernel_rfl) (by kernel_rfl) (fun _ _ _ h => h) (Or.inl ⟨by rfl, ?_⟩) (trivial) ?_
      rotate_left
      · intro wq hSq
        go_simp
        exact rfl
      try simp only [Act.put, List.setIfInBounds_toArray, List.set_cons_zero, List.set_cons_succ]
      refine takeH 6 44 (v := ?vs6_7) rfl (by rfl) (by kernel_rfl) (by kernel_rfl) (by kernel_rfl) (fun _ _ _ h => h) (Or.inl ⟨by rfl, ?_⟩) (trivial) ?_
      rotate_left
      · intro wq hSq
        go_simp
        exact rfl
      try simp only [Act.put, List.setIfInBounds_toArray, List.set_cons_zero, List.set_cons_succ]
      refine wpAnyH_ready (rs := [7]) (by kernel_rfl) (by simp) (AllReadyH.cons rfl (fun K hK => ?_) AllReadyH.nil)
      have hq8 := ((K_wr_s0).block g zg).trans HG.out
      have HS8 : ∀ j v, (List.replicate m (Value.int .i64 (-1)))[j]? = some v → Ws0.cell? ((⟨g, 0, none⟩ : Addr).add j) = some v := fun j v hj => by
        obtain ⟨hjm, rfl⟩ := repl_at hj
        rw [Go.WideShapes.add_plain, Nat.zero_add, cell_of_heap hq8]
        simpa using fillR_at (n := n) (k := k) (j := j) (by omega)
      refine step_copy_splice rfl (.tmp 41) (.tmp 44) 22 22 rfl 3 Try.underlying22 size_in (some ⟨g, k, none⟩) (some ⟨g, 0, none⟩) (n - k) (n - k) k n (by go_simp; omega) (by go_simp) g k (fillR n k) 3 hq8 (List.replicate m (Value.int .i64 (-1))) HM.out (fun _ => ⟨rfl, _, rfl, HS8⟩) HF.out (ones_neg m) w.heap.size w Bs0 hgl ?_
      intro Ws8 HG8 Bs8
      clear hq8 HS8 Bs0 K_wr_s0
      refine hK.out _ _ trivial (fun _ => ?_); clear hK K
      refine takeH 8 46 (v := ?vs8_9) rfl (by rfl) (by kernel_rfl) (by kernel_rfl) (by kernel_rfl) (fun _ _ _ h => h) (Or.inl ⟨by rfl, ?_⟩) (trivial) ?_
      rotate_left
      · intro wq hSq
        go_simp
        exact rfl
      try simp only [Act.put, List.setIfInBounds_toArray]
      refine takeH 9 8 (v := ?vs9_10) rfl (by rfl) (by kernel_rfl) (by kernel_rfl) (by kernel_rfl) (fun _ _ _ h => h) (Or.inl ⟨by rfl, ?_⟩) (trivial) ?_
      rotate_left
      · intro wq hSq
        go_simp
        exact rfl
      try simp only [Act.put]
      refine wpAnyH_done (by kernel_rfl) ?_ _
      have HG9 : Hid (Ws8.heap[g]? = some (.cells (fillR n (k + m)).toArray 3 (0, 0))) := Lib.hid (by have := HG8.out; rw [fillR_more hkm] at this; exact this)
      go_wp2_with fail
      go_roundw
      case rel => exact ⟨k + m, by omega, hkm, by go_num, HG9⟩
      case measure => simp [intOf]; omega
    case neg =>
      obtain rfl : k = n := by omega
      have hd : decide ((k : Int) < (k : Int)) = false := decide_eq_false (by omega)
      go_wp2_with fail
      go_returns
      exact ⟨_, rfl, fill_own HG.out hgl hm, hB⟩


end Go.Proofs.Ytjhlpkkefdohjaa
