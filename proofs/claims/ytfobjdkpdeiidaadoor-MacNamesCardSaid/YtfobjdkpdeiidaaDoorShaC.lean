/-
  Package sha: which numbers can be padded, which hashes are valid; paddings.
-/
import Derived.Test.YtfobjdkpdeiidaaDoorShaB
import Derived.Laws.MakeOwn
namespace Go.Proofs.YtfobjdkpdeiidaaDoor
open Go.RowKit

def cntB (n : Int) : Bool := decide (0 ≤ n) && decide (n ≤ 128000)
theorem countable_any (n : Int) (w : World) (h1 : -9223372036854775808 ≤ n) (h2 : n ≤ 9223372036854775807) :
    Calls Tryd.prog 46 #[.int .i64 n] w fun e w' => e = .returned (.bool (cntB n)) ∧ w = w' := by
  have _ := h1
  have _ := h2
  by_cases a : 0 ≤ n
  · by_cases b : n ≤ 128000
    · have H := Lib.hid (show cntB n = true by simp [cntB, a, b])
      go_enter Tryd.func46, Tryd.ntmps46
      go_wp2
      go_returns
      exact ⟨by rw [H.out]; rfl, rfl⟩
    · have H := Lib.hid (show cntB n = false by simp [cntB, b])
      have b' : decide (n ≤ 128000) = false := decide_eq_false b
      clear b
      go_enter Tryd.func46, Tryd.ntmps46
      go_wp2
      go_returns
      exact ⟨by rw [H.out]; rfl, rfl⟩
  · have H := Lib.hid (show cntB n = false by simp [cntB, a])
    have a' : decide (0 ≤ n) = false := decide_eq_false a
    clear a
    go_enter Tryd.func46, Tryd.ntmps46
    go_wp2
    go_returns
    exact ⟨by rw [H.out]; rfl, rfl⟩
theorem countable_b {n : Int} {b : Bool} (w : World) (h1 : -9223372036854775808 ≤ n) (h2 : n ≤ 9223372036854775807) (h : Hid (cntB n = b)) :
    Calls Tryd.prog 46 #[.int .i64 n] w fun e w' => e = .returned (.bool b) ∧ w = w' := by
  rw [← h.out]; exact countable_any n w h1 h2

/-- A hash is valid: its number and its rest's length. -/
def vldH (n : Int) (len : Nat) : Bool := cntB n && decide ((len : Int) = n % 64)
set_option maxRecDepth 100000 in
theorem valid_any (h : W8) (at0 : Option Addr) (len cap : Nat) (n : Int) (b : Bool) (hb : Hid (vldH n len = b)) (w : World) (h1 : -9223372036854775808 ≤ n) (h2 : n ≤ 9223372036854775807) (hm : len ≤ 9223372036854775807) :
    Calls Tryd.prog 39 #[.agg #[.int .u32 (un h.a), .int .u32 (un h.b), .int .u32 (un h.c), .int .u32 (un h.d), .int .u32 (un h.e), .int .u32 (un h.f), .int .u32 (un h.g), .int .u32 (un h.z), .slice at0 len cap, .int .i64 n]] w fun e w' =>
      e = .returned (.bool b) ∧ Below w.heap.size w w' := by
  have _ := hm
  rcases hc : cntB n with _ | _
  · have HC := Lib.hid hc
    obtain rfl : b = false := by rw [← hb.out]; simp [vldH, hc]
    clear hc hb
    go_enter Tryd.func39, Tryd.ntmps39
    go_wp2_with fail
    refine (countable_b _ h1 h2 HC).mono ?_
    rintro e w' ⟨rfl, rfl⟩
    go_wp2_with fail
    go_returns
    exact ⟨rfl, (Below.refl _ _).alloc (Nat.le_refl _) _⟩
  · have HC := Lib.hid hc
    have hn : 0 ≤ n ∧ n ≤ 128000 := by simpa [cntB] using hc
    have HB := Lib.hid (show decide ((len : Int) = n % 64) = b by rw [← hb.out]; simp [vldH, hc])
    clear hc hb
    have a1 := hn.1
    have a2 := hn.2
    clear hn
    by_cases e : (len : Int) = n % 64
    · obtain rfl : b = true := by rw [← HB.out]; exact decide_eq_true e
      clear HB
      go_enter Tryd.func39, Tryd.ntmps39
      go_wp2_with fail
      refine (countable_b _ h1 h2 HC).mono ?_
      rintro e w' ⟨rfl, rfl⟩
      go_wp2_with fail
      go_returns
      exact ⟨rfl, (Below.refl _ _).alloc (Nat.le_refl _) _⟩
    · obtain rfl : b = false := by rw [← HB.out]; exact decide_eq_false e
      clear HB
      have e' : ((len : Int) == n % 64) = false := by simpa using e
      clear e
      go_enter Tryd.func39, Tryd.ntmps39
      go_wp2_with fail
      refine (countable_b _ h1 h2 HC).mono ?_
      rintro e w' ⟨rfl, rfl⟩
      go_wp2_with fail
      go_returns
      exact ⟨rfl, (Below.refl _ _).alloc (Nat.le_refl _) _⟩

def zb (n : Nat) : Array Value := ((List.replicate n (0 : Int)).map (Value.int .u8)).toArray
theorem made_zb (n : Nat) : madeCells #[.int .u8 0] n = zb n := by
  apply Array.ext
  · simp [madeCells, zb]
  · intro i h1 h2
    simp [madeCells, zb, Nat.mod_one]
set_option maxRecDepth 100000 in
theorem info_u8 : (Tryd.prog.info? 5).map (fun i => (i.zero, i.size, i.bytes)) = some (some (.int .u8 0), 1, 1) := by kernel_rfl
set_option maxRecDepth 100000 in
theorem make_bytes (m : Nat) (hm : m ≤ 1000000) (w : World) : (Instr.makeSlice 23 (.int .i64 (m : Int)) (.int .i64 (m : Int))).run Tryd.prog w = .ok (.slice (some ⟨w.heap.size, 0, none⟩) m m) (w.alloc (.cells (zb m) 5)) := by
  obtain ⟨ti, hin, hz0, hz1, hz2⟩ := info_parts info_u8
  rw [run_make (P := Tryd.prog) w 23 5 ti (.int .u8 0) Tryd.underlying23 hin hz0 .i64 .i64 m m (by omega) (by omega) (by rw [hz2]; omega) (by omega), hz1]
  simp only [Int.toNat_natCast, Nat.mul_one]
  rw [← made_zb]
  rfl

set_option maxRecDepth 100000 in
set_option maxHeartbeats 800000 in
theorem padding_any (n : Nat) (w : World) (hn : n ≤ 128000) :
    Calls Tryd.prog 42 #[.int .i64 (n : Int)] w fun e w' => ∃ v, e = .returned v ∧ IsL w' .u8 v (padL n) ∧ Below w.heap.size w w' := by
  obtain ⟨z, hz⟩ : ∃ z : Nat, z = 63 - (n + 8) % 64 := ⟨_, rfl⟩
  have e1 : ((n : Int) + 8) % 64 = 63 - (z : Int) := by omega
  have e2 : (63 : Int) - (63 - (z : Int)) = (z : Int) := by omega
  have hz2 : z ≤ 63 := by omega
  have HZ := Lib.hid hz
  clear hz
  have hmk := make_bytes (1 + z + 8) (by omega)
  rw [show ((1 + z + 8 : Nat) : Int) = 1 + (z : Int) + 8 by omega] at hmk
  go_enter Tryd.func42, Tryd.ntmps42
  go_upto_region 3 with fail
  clear hmk e1 e2
  go_cut [4] (fun p wx => p = .slice (some ⟨w.heap.size, 0, none⟩) (1 + z + 8) (1 + z + 8) ∧ Box wx w.heap.size ((padS z n 0).map (Value.int .u8)) ∧ Below w.heap.size w wx)
  case first =>
    have hb : Box (w.alloc (.cells (zb (1 + z + 8)) 5)) w.heap.size ((List.replicate (1 + z + 8) (0 : Int)).map (Value.int .u8)) := Box.newc rfl rfl
    have g0 : ((List.replicate (1 + z + 8) (0 : Int)).map (Value.int .u8))[0]? = some (.int .u8 0) := by rw [List.getElem?_map, List.getElem?_replicate, if_pos (by omega)]; rfl
    have c0 := hb.c 0 _ g0
    have f0 := hb.f 0 _ g0
    have hB : Below w.heap.size w (w.alloc (.cells (zb (1 + z + 8)) 5)) := (Below.refl _ _).alloc (Nat.le_refl _) _
    have hs : w.heap.size < (w.alloc (.cells (zb (1 + z + 8)) 5)).heap.size := by simp
    obtain ⟨w1, h9⟩ : ∃ W, w.alloc (.cells (zb (1 + z + 8)) 5) = W := ⟨_, rfl⟩
    rw [h9] at hb c0 f0 hB hs ⊢
    clear h9 g0
    go_wp2_with fail
    go_meet
    refine ⟨rfl, ?_, hB.setCell (Nat.le_refl _) _⟩
    rw [← padS_zero, List.map_set]
    exact hb.set 0 _
  case rest =>
    obtain ⟨rfl, hX, hB⟩ := hcut
    obtain ⟨w1, rfl⟩ : ∃ u : World, u = wc := ⟨_, rfl⟩
    go_wp2_with fail
    go_loopw [16] (fun i wr => ∃ k : Nat, k ≤ 8 ∧ i = .int .i64 k ∧ Box wr w.heap.size ((padS z n k).map (Value.int .u8)) ∧ Below w.heap.size w wr) (fun i _ => 8 - (intOf i).toNat)
    case atStart => exact ⟨0, by omega, rfl, hX, hB⟩
    case round =>
      clear hX hB
      obtain ⟨k, hk, rfl, hX, hB⟩ := hrel
      have z1 := hX.lt
      by_cases hlt : k < 8
      · have c1 := hX.c (1 + z + 7 - k) _ (nth_get (1 + z + 7 - k) (by rw [padS_len]; omega))
        have f1 := hX.f (1 + z + 7 - k) _ (nth_get (1 + z + 7 - k) (by rw [padS_len]; omega))
        have E := byteOf_is n k
        go_wp2_with fail
        go_roundw
        case rel =>
          refine ⟨k + 1, by omega, by go_num, ?_, hB.setCell (Nat.le_refl _) _⟩
          rw [← padS_succ z n k hlt, List.map_set]
          exact hX.set (1 + z + 7 - k) _
        case measure => simp [intOf]; omega
      · obtain rfl : k = 8 := by omega
        go_wp2_with fail
        go_ret
        rw [padS_all z n HZ.out] at hX
        have hlen : (padL n).length = 1 + z + 8 := by rw [← padS_all z n HZ.out, padS_len]
        refine ⟨_, rfl, ⟨some ⟨w.heap.size, 0, none⟩, 1 + z + 8, by rw [hlen]; rfl, ⟨by omega, by omega, fun _ => ⟨w.heap.size, 0, rfl, fun i hi => ?_⟩⟩, fun h => by cases h⟩, hB⟩
        rw [Nat.zero_add]
        exact hX.c i _ (nth_get i hi)

end Go.Proofs.YtfobjdkpdeiidaaDoor
