/-
  The reference of layer 7: Number, Bytes.
-/
import Derived.Test.YtlbbedknldmcpaaFldH
namespace Go.Proofs.Ytlbbedknldmcpaa
open Go.RowKit

theorem ret_u {a b : Int} (h : a = b) : Ending.returned (.int .u64 a) = .returned (.int .u64 b) := by rw [h]

set_option maxRecDepth 100000 in
set_option maxHeartbeats 1600000 in
theorem rnum_is {v : Value} {bs : List Int} (w : World) (h1 : IsL w .u8 v bs) (hl : bs.length ≤ 8) (hby : Byts bs) : Calls Try.prog 12 #[v] w fun e w' => e = .returned (.int .u64 (num bs)) ∧ Below w.heap.size w w' := by
  obtain ⟨a0, c0, rfl, hr, _⟩ := id h1
  have i1 := hr.room
  have i2 := hr.most
  have HR := Lib.hid h1
  have HB := Lib.hid hby
  clear h1 hr hby
  go_enter Try.func12, Try.ntmps12
  go_wp2_with fail
  go_loopw [3, 4] (fun s3 s4 wr => ∃ (j : Nat) (N : Int), s4 = .int .i64 j ∧ s3 = .int .u64 N ∧ j ≤ bs.length ∧ Hid (num (bs.take j) = N) ∧ Below w.heap.size w wr) (fun _ s4 _ => bs.length - (intOf s4).toNat)
  case atStart => exact ⟨0, 0, rfl, rfl, by omega, Lib.hid rfl, by go_grown⟩
  case round =>
    obtain ⟨j, N, rfl, rfl, hj, HN, hB⟩ := hrel
    have hs := hB.size
    by_cases hlt : j < bs.length
    · obtain ⟨b, off, rfl, hc⟩ := HR.out.get j hlt
      have c1 := cell_below hB hc
      obtain ⟨x, hx⟩ : ∃ x, nth bs j = x := ⟨_, rfl⟩
      have hN2 : num (bs.take (j + 1)) = 256 * N + x := by rw [num_snoc' hlt, HN.out, hx]
      have hxb : 0 ≤ x ∧ x ≤ 255 := by rw [← hx]; exact nth_all HB.out j hlt
      have hNb : 0 ≤ N ∧ N < 72057594037927936 := by
        have h3 := num_bound _ (bs.take j) rfl (HB.out.take j)
        have h4 : (256 : Int) ^ (bs.take j).length ≤ 256 ^ 7 := pow_le7 (by rw [List.length_take]; omega)
        rw [HN.out] at h3
        have h5 : (256 : Int) ^ 7 = 72057594037927936 := by decide
        omega
      have hx0 := hxb.1
      have hx1 := hxb.2
      have hN0 := hNb.1
      have hN1 := hNb.2
      rw [hx] at c1
      have HN2 := Lib.hid hN2
      clear hc hN2 hx hxb hNb
      go_wp2_with fail
      go_roundw
      case rel => exact ⟨j + 1, 256 * N + x, by go_num, by go_num, by omega, HN2, by go_grown⟩
      case measure => simp [intOf]; omega
    · obtain rfl : j = bs.length := by omega
      have HX := Lib.hid (show N = num bs by rw [← HN.out, List.take_length])
      go_wp2_with fail
      go_returns
      exact ⟨ret_u HX.out, hB⟩

/-- A list of one byte just built. -/
theorem IsL.ints {w : World} {k : IntKind} {a : Option Addr} {n c : Nat} {xs : List Int} (h : IsL w k (.slice a n c) xs) : Ints w k a c xs := by
  obtain ⟨a', c', e, h1, _⟩ := h
  injection e with e1 e2 e3
  subst e1 e2 e3
  exact h1
theorem be_take_succ (w : Nat) (n : Int) (j i : Nat) (h : w = j + (i + 1)) (h0 : 0 ≤ n) : (be w n).take (j + 1) = (be w n).take j ++ [n / 2 ^ (8 * i) % 256] := by
  rw [take_succ_nth (by rw [be_len]; omega), pow_byte, ← be_nth w n i h0 (by omega)]
  congr 3
  omega

set_option maxRecDepth 100000 in
set_option maxHeartbeats 1600000 in
theorem rbytes_is (n : Int) (m : Nat) (w : World) (h0 : 0 ≤ n) (h1 : n ≤ 18446744073709551615) (hm : m ≤ 8) : Calls Try.prog 20 #[.int .u64 n, .int .i64 m] w (GivesL (be m n) w) := by
  have _ := h1
  obtain ⟨ti, hin, hz0, hz1, hz2⟩ := info_parts info_u8'
  go_enter Try.func20, Try.ntmps20
  go_wp2_with fail
  go_loopw [5, 6] (fun s5 s6 wr => ∃ (i j : Nat), s6 = .int .i64 ((i : Int) - 1) ∧ Hid (m = j + i) ∧ i ≤ m ∧ Hid (wr.ownsRow w.heap.size 5 1 s5 j (((be m n).take j).map (Value.int .u8))) ∧ Below w.heap.size w wr) (fun _ s6 _ => (intOf s6 + 1).toNat)
  case atStart => exact ⟨m, 0, rfl, Lib.hid (by omega), Nat.le_refl _, Lib.hid (by simpa using ownU_nil), by go_grown⟩
  case round =>
    obtain ⟨i, j, rfl, HMJ, him, HO, hB⟩ := hrel
    have hs := hB.size
    cases i with
    | zero =>
      have HX := Lib.hid (show (be m n).take j = be m n from List.take_of_length_le (by rw [be_len]; have := HMJ.out; omega))
      have d1 : ((0 : Nat) : Int) - 1 = -1 := rfl
      rw [d1]
      go_wp2_with fail
      go_returns
      refine ⟨_, rfl, ?_, hB⟩
      have := IsL.own HO.out (by rw [List.length_take, be_len]; have := HMJ.out; omega)
      rwa [HX.out] at this
    | succ i =>
      have d1 : ((i + 1 : Nat) : Int) - 1 = (i : Int) := by omega
      rw [d1]
      have HT := Lib.hid (be_take_succ m n j i HMJ.out h0)
      have hjm : j + 1 ≤ 8 := by have := HMJ.out; omega
      have HO2 := Lib.hid (fun (x : Int) => ownR_below HO.out ((Below.refl wr.heap.size wr).alloc (Nat.le_refl _) (.cells #[.int .u8 x] 5)))
      go_wp2_with (at_builtin; refine wpList_append_ints rfl _ _ 28 rfl w.heap.size 5 ti (.int .u8 0) 1 .u8 Try.underlying28 hin hz0 hz1 hz2 rfl _ j _ rfl (HO2.out _) _ 1 [n / 2 ^ (8 * i) % 256] rfl ((IsL.built [n / 2 ^ (8 * i) % 256] rfl rfl rfl rfl (by simp)).ints) (fun h => by cases h) (by unfold maxLen; simp; omega) (by simp; omega) (by simp; omega) ?_; intro v4 w4 hown4 hgrow4)
      have hB4 : Below w.heap.size w w4 := (hB.alloc hs _).grown hgrow4 (by simp; omega) (own_block (HO2.out (n / 2 ^ (8 * i) % 256)))
      have HO4 := Lib.hid (show w4.ownsRow w.heap.size 5 1 v4 (j + 1) (((be m n).take (j + 1)).map (Value.int .u8)) by rw [HT.out, List.map_append]; exact hown4)
      clear hown4 hgrow4 HO2 HO
      go_wp2_with fail
      go_roundw
      case rel => exact ⟨i, j + 1, rfl, Lib.hid (by have := HMJ.out; omega), by omega, HO4, hB4⟩
      case measure => simp [intOf]

end Go.Proofs.Ytlbbedknldmcpaa
