/-
  Package field, walked: bytesOf.
-/
import Derived.Test.YtlbbedknldmcpaaFldC
import Derived.Test.YtlbbedknldmcpaaMakeB
namespace Go.Proofs.Ytlbbedknldmcpaa
open Go.RowKit

/-- The bytes laid so far: the k last ones. -/
def beS (w : Nat) (n : Int) (k : Nat) : List Int := List.replicate (w - k) 0 ++ (be w n).drop (w - k)
theorem beS_len (w : Nat) (n : Int) (k : Nat) (h : k ≤ w) : (beS w n k).length = w := by unfold beS; rw [List.length_append, List.length_replicate, List.length_drop, be_len]; omega
theorem beS_zero (w : Nat) (n : Int) : beS w n 0 = List.replicate w 0 := by unfold beS; rw [Nat.sub_zero, List.drop_eq_nil_of_le (by rw [be_len]; omega), List.append_nil]
theorem beS_all (w : Nat) (n : Int) : beS w n w = be w n := by unfold beS; rw [Nat.sub_self]; simp
theorem beS_succ (w : Nat) (n : Int) (k : Nat) (h : k < w) (h0 : 0 ≤ n) : (beS w n k).set (w - 1 - k) (n / 256 ^ k % 256) = beS w n (k + 1) := by
  refine ext_nth (by rw [List.length_set, beS_len _ _ _ (by omega), beS_len _ _ _ (by omega)]) fun i hi => ?_
  rw [List.length_set, beS_len _ _ _ (by omega)] at hi
  have hd : ∀ (k : Nat), k ≤ w → nth (beS w n k) i = if i < w - k then 0 else nth (be w n) i := fun k hk => by
    unfold beS
    split
    · rename_i h1
      rw [nth_append_left (by rw [List.length_replicate]; exact h1)]
      unfold nth
      rw [List.getD_eq_getElem?_getD, List.getElem?_replicate, if_pos h1]; rfl
    · rename_i h1
      rw [nth_append_right (by rw [List.length_replicate]; omega), List.length_replicate, nth_drop]
      congr 1; omega
  rw [hd (k + 1) (by omega)]
  by_cases q : i = w - 1 - k
  · subst q
    rw [if_neg (by omega), be_nth w n k h0 h]
    unfold nth
    rw [List.getD_eq_getElem?_getD, List.getElem?_set, if_pos rfl, if_pos (by rw [beS_len _ _ _ (by omega)]; omega)]
    rfl
  · have e : nth ((beS w n k).set (w - 1 - k) (n / 256 ^ k % 256)) i = nth (beS w n k) i := by
      unfold nth
      rw [List.getD_eq_getElem?_getD, List.getElem?_set, if_neg (by omega), ← List.getD_eq_getElem?_getD]
    rw [e, hd k (by omega)]
    by_cases h1 : i < w - k
    · rw [if_pos h1, if_pos (by omega)]
    · rw [if_neg h1, if_neg (by omega)]
theorem nth_at' {xs : List Int} {k : IntKind} (i : Nat) (h : i < xs.length) : (xs.map (Value.int k))[i]? = some (.int k (nth xs i)) := by
  unfold nth
  rw [List.getElem?_map, List.getElem?_eq_getElem h, List.getD_eq_getElem?_getD, List.getElem?_eq_getElem h]
  rfl
theorem IsL.boxed {w : World} {b : Nat} {k : IntKind} {xs : List Int} (n : Nat) (hn : xs.length = n) (h : Box w b (xs.map (Value.int k))) (hl : n ≤ 1000000) : IsL w k (.slice (some ⟨b, 0, Option.none⟩) n n) xs := by
  subst hn
  refine ⟨some ⟨b, 0, Option.none⟩, xs.length, rfl, ⟨Nat.le_refl _, by omega, fun _ => ⟨b, 0, rfl, fun i hi => ?_⟩⟩, fun h => by cases h⟩
  rw [Nat.zero_add]
  exact h.c i _ (nth_at' i hi)
/-- A part of a block, read as a list. -/
theorem IsL.range {w : World} {b off : Nat} {k : IntKind} {xs : List Int} (n m : Nat) (hn : xs.length = n) (h : w.rangeAt b off (xs.map (Value.int k))) (hm : n ≤ m) (hl : m ≤ 9223372036854775807) : IsL w k (.slice (some ⟨b, off, Option.none⟩) n m) xs := by
  subst hn
  exact ⟨some ⟨b, off, Option.none⟩, m, rfl, ⟨hm, hl, fun _ => ⟨b, off, rfl, fun i hi => h i _ (nth_at' i hi)⟩⟩, fun h => by cases h⟩

theorem pow_byte (N : Int) (k : Nat) : N / 2 ^ (8 * k) % 256 = N / 256 ^ k % 256 := by
  rw [Int.pow_mul]
  rfl
/-- What a call gives: a list of bytes. -/
def GivesL (xs : List Int) (w : World) (e : Ending) (w' : World) : Prop := ∃ v, e = .returned v ∧ IsL w' .u8 v xs ∧ Below w.heap.size w w'

set_option maxRecDepth 100000 in
set_option maxHeartbeats 1600000 in
theorem bytesOf_dig (f : Fd) (w : World) (h6 : f.k = 6) : Calls Try.prog 26 #[.agg f.v.toArray] w (GivesL f.bs w) := by
  have hX : Box (w.alloc (.cells f.v.toArray 44)) w.heap.size f.v := Box.newc rfl rfl
  have hB : Below w.heap.size w (w.alloc (.cells f.v.toArray 44)) := by go_grown
  have hbs : f.bs = f.d := if_pos h6
  obtain ⟨V, hV⟩ : ∃ V, f.v = V := ⟨_, rfl⟩
  rw [hV] at hX hB ⊢
  obtain ⟨w1, hw1⟩ : ∃ w1, w.alloc (.cells V.toArray 44) = w1 := ⟨_, rfl⟩
  have c0 := hX.c 0 (.int .u8 f.k) (by rw [← hV]; rfl)
  have hD := Lib.hid (hX.rangeFrom 2 (f.d.map (Value.int .u8)) (by rw [← hV]; rfl))
  have hz := hX.lt
  have hlen := Lib.hid f.hl
  rw [hw1] at c0 hD hB hz
  rw [h6] at c0
  rw [hbs]
  clear hX hV hbs h6
  go_enter Try.func26, Try.ntmps26
  go_wp2_with fail
  go_returns
  exact ⟨_, rfl, IsL.range 32 32 hlen.out hD.out (by omega) (by omega), hB⟩

set_option maxRecDepth 100000 in
set_option maxHeartbeats 1600000 in
theorem bytesOf_num (f : Fd) (w : World) (h6 : f.k ≠ 6) : Calls Try.prog 26 #[.agg f.v.toArray] w (GivesL f.bs w) := by
  have hX : Box (w.alloc (.cells f.v.toArray 44)) w.heap.size f.v := Box.newc rfl rfl
  have hB : Below w.heap.size w (w.alloc (.cells f.v.toArray 44)) := by go_grown
  have hbs : f.bs = be (wid f.k) f.n := if_neg h6
  have hk6 : (f.k == 6) = false := by simpa using h6
  have hn0 := f.hn.1
  have hn1 := f.hn.2
  obtain ⟨V, hV⟩ : ∃ V, f.v = V := ⟨_, rfl⟩
  rw [hV] at hX hB ⊢
  obtain ⟨w1, hw1⟩ : ∃ w1, w.alloc (.cells V.toArray 44) = w1 := ⟨_, rfl⟩
  have v0 : V[0]? = some (.int .u8 f.k) := by rw [← hV]; rfl
  have v1 : V[1]? = some (.int .u64 f.n) := by rw [← hV]; rfl
  have c0 := hX.c 0 _ v0
  have hz := hX.lt
  have W := wd_is f.k
  obtain ⟨m, hm⟩ : ∃ m, wid f.k = m := ⟨_, rfl⟩
  have hm8 : m ≤ 8 := by
    rw [← hm]
    have : f.k = 6 ∨ wid f.k ≤ 8 := by unfold wid; (repeat' split) <;> simp_all
    omega
  rw [hw1] at c0 hB hz hX
  rw [hbs]
  rw [hm] at W ⊢
  obtain ⟨N, hN⟩ : ∃ N, f.n = N := ⟨_, rfl⟩
  rw [hN] at hn0 hn1 v1 ⊢
  have hmk := make_bytes m (by omega)
  clear hV hbs h6 hN hm
  go_enter Try.func26, Try.ntmps26
  go_wp2_with fail
  refine (W _).mono ?_
  rintro e w2 ⟨rfl, rfl⟩
  have hX2 := hX.alloc (.cells (zb m) 5)
  have hY2 : Box (w2.alloc (.cells (zb m) 5)) w2.heap.size ((List.replicate m (0 : Int)).map (Value.int .u8)) := Box.newc rfl rfl
  rw [← beS_zero m N] at hY2
  have hB2 : Below w.heap.size w (w2.alloc (.cells (zb m) 5)) := hB.alloc (by omega) _
  have hs : w.heap.size < w2.heap.size := hz
  obtain ⟨w3, hw3⟩ : ∃ w3, w2.alloc (.cells (zb m) 5) = w3 := ⟨_, rfl⟩
  obtain ⟨b3, hb3⟩ : ∃ b3, w2.heap.size = b3 := ⟨_, rfl⟩
  rw [hw3] at hX2 hY2 hB2
  rw [hb3] at hY2 hs
  clear hX hB hz c0
  go_wp2_with fail
  clear hw3 hmk W
  go_loopw [16] (fun i wr => ∃ k : Nat, k ≤ m ∧ i = .int .i64 k ∧ Box wr w.heap.size V ∧ Box wr b3 ((beS m N k).map (Value.int .u8)) ∧ Below w.heap.size w wr) (fun i _ => m - (intOf i).toNat)
  case atStart => exact ⟨0, by omega, rfl, hX2, hY2, hB2⟩
  case round =>
    clear hX2 hY2 hB2
    obtain ⟨k, hk, rfl, hX, hY, hB⟩ := hrel
    have z1 := hX.lt
    have z2 := hY.lt
    by_cases hlt : k < m
    · have c0 := hX.c 0 _ v0
      have c1 := hX.c 1 _ v1
      have d0 := hY.c (m - 1 - k) _ (nth_at' (m - 1 - k) (by rw [beS_len _ _ _ (by omega)]; omega))
      have d1 := hY.f (m - 1 - k) _ (nth_at' (m - 1 - k) (by rw [beS_len _ _ _ (by omega)]; omega))
      have E := pow_byte N k
      have hne : b3 ≠ w.heap.size := by omega
      go_wp2_with fail
      go_roundw
      case rel =>
        refine ⟨k + 1, by omega, by go_num, hX.other hne _, ?_, hB.setCell (by show w.heap.size ≤ b3; omega) _⟩
        rw [← beS_succ _ _ _ hlt hn0, List.map_set]
        exact hY.set (m - 1 - k) _
      case measure => simp [intOf]; omega
    · obtain rfl : k = m := by omega
      go_wp2_with fail
      go_returns
      rw [beS_all] at hY
      exact ⟨_, rfl, IsL.boxed _ (be_len _ _) hY (by omega), hB⟩

theorem bytesOf_is (f : Fd) (w : World) : Calls Try.prog 26 #[.agg f.v.toArray] w (GivesL f.bs w) := by
  by_cases h : f.k = 6
  · exact bytesOf_dig f w h
  · exact bytesOf_num f w h

end Go.Proofs.Ytlbbedknldmcpaa
