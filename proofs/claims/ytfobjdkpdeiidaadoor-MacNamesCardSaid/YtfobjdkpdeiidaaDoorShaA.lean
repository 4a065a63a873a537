/-
  Turned words: math/bits.RotateLeft32, right, turned of package sha; turn of the reference.
-/
import Derived.Test.YtfobjdkpdeiidaaDoorBig
import Derived.Test.YtfobjdkpdeiidaaDoorShaMath
namespace Go.Proofs.YtfobjdkpdeiidaaDoor
open Go.RowKit

theorem ret_num {k : IntKind} {a b : Int} (h : a = b) : Ending.returned (.int k a) = .returned (.int k b) := by rw [h]
theorem mask31 (n : Nat) (h0 : 0 < n) (h : n < 32) : bits .and .u64 (IntKind.u64.wrap (-(n : Int))) 31 = ((32 - n : Nat) : Int) := by
  have e : IntKind.u64.wrap (-(n : Int)) = ((18446744073709551616 - n : Nat) : Int) := by
    rw [IntKind.wrap_u64]; omega
  rw [e, show (31 : Int) = ((31 : Nat) : Int) from rfl, u64_and_nat _ _ (by omega) (by omega), nat_mask5]
  omega

theorem rot_any (x : UInt32) (m : Int) (n : Nat) (hm : Hid (m = -(n : Int))) (h0 : 0 < n) (h : n < 32) (w : World) :
    Calls Tryd.prog 53 #[.int .u32 (un x), .int .i64 m] w fun e w' => e = .returned (.int .u32 (un (rotr x n))) ∧ w = w' := by
  have k1 := mask31 n h0 h
  have k2 := hm.out
  subst k2
  clear hm
  go_enter Tryd.func53, Tryd.ntmps53
  go_wp2
  go_ret
  exact ⟨ret_num (by rw [show 32 - (32 - n) = n by omega]; exact un_rotm x n h0 h), rfl⟩
theorem right_any (x : UInt32) (m : Int) (n : Nat) (hm : Hid (m = (n : Int))) (h0 : 0 < n) (h : n < 32) (w : World) :
    Calls Tryd.prog 52 #[.int .u32 (un x), .int .i64 m] w fun e w' => e = .returned (.int .u32 (un (rotr x n))) ∧ w = w' := by
  have k2 := hm.out
  subst k2
  clear hm
  go_enter Tryd.func52, Tryd.ntmps52
  go_wp2_with (go_at_call 53; refine (rot_any x _ n (Lib.hid rfl) h0 h _).mono ?_; rintro e w' ⟨rfl, rfl⟩)
  go_ret
  exact ⟨rfl, rfl⟩
theorem turn_any (x : UInt32) (m : Int) (n : Nat) (hm : Hid (m = (n : Int))) (h0 : 0 < n) (h : n < 32) (w : World) :
    Calls Tryd.prog 48 #[.int .u32 (un x), .int .i64 m] w fun e w' => e = .returned (.int .u32 (un (rotr x n))) ∧ ∃ q, w' = w.drewN q := by
  have k2 := hm.out
  subst k2
  clear hm
  have k1 : (32 : Int) - (n : Int) = ((32 - n : Nat) : Int) := by omega
  have k3 : 32 - n ≤ 32 := by omega
  go_enter Tryd.func48, Tryd.ntmps48
  go_wp2
  go_quiet (fail)
  go_wp2
  go_ret
  exact ⟨ret_num (un_rotm' x n h0 h), nq, rfl⟩
theorem turned_any (x : UInt32) (m1 m2 m3 : Int) (i j k : Nat) (h1 : Hid (m1 = (i : Int))) (h2 : Hid (m2 = (j : Int))) (h3 : Hid (m3 = (k : Int))) (hi : 0 < i) (hi' : i < 32) (hj : 0 < j) (hj' : j < 32) (hk : 0 < k) (hk' : k < 32) (w : World) :
    Calls Tryd.prog 51 #[.int .u32 (un x), .int .i64 m1, .int .i64 m2, .int .i64 m3] w fun e w' => e = .returned (.int .u32 (un (tri x i j k))) ∧ w = w' := by
  have X := un_xor
  go_enter Tryd.func51, Tryd.ntmps51
  go_wp2_with fail
  refine (right_any x _ i h1 hi hi' _).mono ?_; rintro e w' ⟨rfl, rfl⟩
  go_wp2_with fail
  refine (right_any x _ j h2 hj hj' _).mono ?_; rintro e w' ⟨rfl, rfl⟩
  go_wp2_with fail
  refine (right_any x _ k h3 hk hk' _).mono ?_; rintro e w' ⟨rfl, rfl⟩
  go_wp2_with fail
  go_ret
  exact ⟨rfl, rfl⟩

/-- A word as a value; a row of words. -/
def wv (x : UInt32) : Value := .int .u32 (un x)
theorem cell_below' {w w' : World} {b o : Nat} {v : Value} (hb : Below w.heap.size w w') (h : w.cell? ⟨b, o, none⟩ = some v) : w'.cell? ⟨b, o, none⟩ = some v := cell_below hb h
theorem size64 : (Tryd.prog.info? 83).map (·.size) = some 64 := by kernel_rfl
set_option maxRecDepth 100000 in
set_option maxHeartbeats 1600000 in
theorem schedule_any (at0 : Option Addr) (cap : Nat) (xs : List Int) (w : World) (hi : Ints w .u8 at0 cap xs) (hl : xs.length = 64) (hx : ∀ k, k < 64 → 0 ≤ nth xs k ∧ nth xs k < 256) :
    Calls Tryd.prog 50 #[.slice at0 xs.length cap] w fun e w' => e = .returned (.agg ((sched xs 48).map wv).toArray) ∧ Below w.heap.size w w' := by
  have hr := hi.room
  have hm := hi.most
  obtain ⟨b, off, rfl, hc⟩ := hi.cells (by omega)
  rw [hl] at hc hr
  rw [hl]
  go_enter Tryd.func50, Tryd.ntmps50
  go_upto_region 1 with fail
  go_cut [2, 3] (fun p q wx => p = .pointer (some ⟨w.heap.size, 0, none⟩) ∧ q = .pointer (some ⟨w.heap.size + 1, 0, none⟩) ∧ Box wx w.heap.size ((List.replicate 64 0).map wv) ∧ Box wx (w.heap.size + 1) ((fill xs 0).map wv) ∧ Below w.heap.size w wx)
  case first =>
    go_wp2_with fail
    go_meet
    refine ⟨rfl, rfl, Box.alloc (Box.newc rfl rfl) _, Box.newc (by rw [fill_zero]; rfl) (by simp), ?_⟩
    go_grown
  case rest =>
    obtain ⟨rfl, rfl, hR, hX, hB⟩ := hcut
    obtain ⟨w1, rfl⟩ : ∃ u : World, u = wc := ⟨_, rfl⟩
    clear hi
    have HX := Lib.hid hx
    have HC := Lib.hid hc
    clear hx hc
    go_wp2_with fail
    go_loopw [13] (fun i wr => ∃ k : Nat, k ≤ 64 ∧ i = .int .i64 k ∧ Box wr w.heap.size ((List.replicate 64 0).map wv) ∧ Box wr (w.heap.size + 1) ((fill xs k).map wv) ∧ Below w.heap.size w wr) (fun i _ => 64 - (intOf i).toNat)
    case atStart => exact ⟨0, by omega, rfl, hR, hX, hB⟩
    case round =>
      obtain ⟨k, hk, rfl, hR, hX, hB⟩ := hrel
      by_cases hlt : k < 64
      · have c0 := cell_below' hB (HC.out k hlt)
        have c1 := hX.c (k / 4) _ (getD_map_wv wv (fill xs k) (k / 4) (by rw [fill_len]; omega))
        have f1 := hX.f (k / 4) _ (getD_map_wv wv (fill xs k) (k / 4) (by rw [fill_len]; omega))
        have hs := HX.out k hlt
        have z1 := hX.lt
        have E := shl8 ((fill xs k).getD (k / 4) 0) (nth xs k) hs.1 hs.2
        have hX' := hX.set (k / 4) (.int .u32 (un (((fill xs k).getD (k / 4) 0 <<< 8) ||| byteW (nth xs k))))
        have hR' := hR.other (a := ⟨w.heap.size + 1, k / 4, none⟩) (by show w.heap.size + 1 ≠ w.heap.size; omega) (.int .u32 (un (((fill xs k).getD (k / 4) 0 <<< 8) ||| byteW (nth xs k))))
        have hB' := hB.setCell (show w.heap.size ≤ (⟨w.heap.size + 1, k / 4, none⟩ : Addr).block from Nat.le_succ _) (.int .u32 (un (((fill xs k).getD (k / 4) 0 <<< 8) ||| byteW (nth xs k))))
        have hX'' := Lib.hid hX'
        have hR'' := Lib.hid hR'
        have hB'' := Lib.hid hB'
        clear hX hR hX' hR' hB'
        unfold wv at c1
        have S := Lib.hid (fill_succ xs k hlt)
        generalize (fill xs k).getD (k / 4) 0 = V at *
        go_wp2_with fail
        go_roundw
        case rel => exact ⟨k + 1, by omega, by go_num, hR''.out, by have := hX''.out; rw [← S.out, List.map_set]; exact this, hB''.out⟩
        case measure => simp [intOf]; omega
      · obtain rfl : k = 64 := by omega
        rw [fill_all] at hX
        clear HX HC
        go_wp2_with fail
        clear hlt hk
        simp only [Int.cast_ofNat_Int]
        go_loopw [6] (fun i wr => ∃ n : Nat, n ≤ 48 ∧ i = .int .i64 ((n : Int) + 16) ∧ Box wr w.heap.size ((List.replicate 64 0).map wv) ∧ Box wr (w.heap.size + 1) ((grown xs n).map wv) ∧ Below w.heap.size w wr) (fun i _ => 64 - (intOf i).toNat)
        case atStart => exact ⟨0, by omega, rfl, hR, hX, hB⟩
        case round =>
          clear hR hX hB
          obtain ⟨n, hn, rfl, hR, hX, hB⟩ := hrel
          have z1 := hX.lt
          by_cases hlt : n < 48
          · have c1 := hX.c (n + 1) _ (getD_map_wv wv (grown xs n) (n + 1) (by rw [grown_len _ _ hn]; omega))
            have c2 := hX.c (n + 14) _ (getD_map_wv wv (grown xs n) (n + 14) (by rw [grown_len _ _ hn]; omega))
            have c3 := hX.c n _ (getD_map_wv wv (grown xs n) n (by rw [grown_len _ _ hn]; omega))
            have c4 := hX.c (n + 9) _ (getD_map_wv wv (grown xs n) (n + 9) (by rw [grown_len _ _ hn]; omega))
            have c5 := hX.c (n + 16) _ (getD_map_wv wv (grown xs n) (n + 16) (by rw [grown_len _ _ hn]; omega))
            have f5 := hX.f (n + 16) _ (getD_map_wv wv (grown xs n) (n + 16) (by rw [grown_len _ _ hn]; omega))
            unfold wv at c1 c2 c3 c4 c5
            have N := sched_len xs n
            have V : (next (sched xs n)) = ((grown xs n).getD n 0 + (grown xs n).getD (n + 9) 0 + sg0 ((grown xs n).getD (n + 1) 0) + sg1 ((grown xs n).getD (n + 14) 0)) := by
              rw [grown_get _ _ _ (by omega), grown_get _ _ _ (by omega), grown_get _ _ _ (by omega), grown_get _ _ _ (by omega)]
              unfold next
              rw [N, show n + 16 - 16 = n by omega, show n + 16 - 7 = n + 9 by omega, show n + 16 - 15 = n + 1 by omega, show n + 16 - 2 = n + 14 by omega]
            have S := Lib.hid (grown_succ xs n hlt)
            rw [V] at S
            clear N V
            generalize (grown xs n).getD n 0 = v0 at *
            generalize (grown xs n).getD (n + 1) 0 = v1 at *
            generalize (grown xs n).getD (n + 9) 0 = v9 at *
            generalize (grown xs n).getD (n + 14) 0 = v14 at *
            generalize (grown xs n).getD (n + 16) 0 = v16 at *
            have X := un_xor
            have A := un_addm
            have D1 : un v1 / (8 : Int) = un (v1 >>> 3) := un_shr v1 3 (by decide)
            have D2 : un v14 / (1024 : Int) = un (v14 >>> 10) := un_shr v14 10 (by decide)
            have e1 : IntKind.i64.wrap ((n : Int) + 16 - 15) = (n : Int) + 1 := by rw [IntWalk.i64_in _ (by omega)]; omega
            have e2 : IntKind.i64.wrap ((n : Int) + 16 - 2) = (n : Int) + 14 := by rw [IntWalk.i64_in _ (by omega)]; omega
            have e3 : ((n : Int) + 1).toNat = n + 1 := by omega
            have e4 : ((n : Int) + 14).toNat = n + 14 := by omega
            have b1 : 0 ≤ (n : Int) + 1 := by omega
            have b2 : (n : Int) + 1 < 64 := by omega
            have b3 : 0 ≤ (n : Int) + 14 := by omega
            have b4 : (n : Int) + 14 < 64 := by omega
            go_wp2_with fail
            go_quiet (fail)
            clear e1 e2 e3 e4 b1 b2 b3 b4
            go_wp2_with fail
            refine (right_any v1 _ 7 (Lib.hid rfl) (by decide) (by decide) _).mono ?_; rintro e w' ⟨rfl, rfl⟩
            go_wp2_with fail
            refine (right_any v1 _ 18 (Lib.hid rfl) (by decide) (by decide) _).mono ?_; rintro e w' ⟨rfl, rfl⟩
            go_wp2_with fail
            refine (right_any v14 _ 17 (Lib.hid rfl) (by decide) (by decide) _).mono ?_; rintro e w' ⟨rfl, rfl⟩
            go_wp2_with fail
            refine (right_any v14 _ 19 (Lib.hid rfl) (by decide) (by decide) _).mono ?_; rintro e w' ⟨rfl, rfl⟩
            go_wp2_with fail
            have e1 : IntKind.i64.wrap (n : Int) = (n : Int) := by rw [IntWalk.i64_in _ (by omega)]
            have e2 : IntKind.i64.wrap ((n : Int) + 16 - 7) = (n : Int) + 9 := by rw [IntWalk.i64_in _ (by omega)]; omega
            have e3 : ((n : Int) + 9).toNat = n + 9 := by omega
            have e4 : ((n : Int) + 16).toNat = n + 16 := by omega
            have b1 : 0 ≤ (n : Int) + 9 := by omega
            have b2 : (n : Int) + 9 < 64 := by omega
            have b3 : 0 ≤ (n : Int) + 16 := by omega
            have b4 : (n : Int) + 16 < 64 := by omega
            have b5 : (n : Int) < 64 := by omega
            have b6 : n < 64 := by omega
            refine region_still_tail 15 (by kernel_rfl) (by kernel_rfl) ?_
            simp only [List.take_succ_cons, List.take_zero, List.drop_succ_cons, List.drop_zero]
            repeat still_step
            try refine wpStill_nil ?_
            clear e1 e2 e3 e4 b1 b2 b3 b4 b5
            go_wp2_with fail
            go_roundw
            case rel =>
              refine ⟨n + 1, by omega, by go_num, (hR.drewN _).other (by show w.heap.size + 1 ≠ w.heap.size; omega) _, ?_, (below_drewN hB _).setCell (show w.heap.size ≤ (⟨w.heap.size + 1, n + 16, none⟩ : Addr).block from Nat.le_succ _) _⟩
              rw [← S.out, List.map_set]
              exact (hX.drewN _).set (n + 16) _
            case measure => simp [intOf]; omega
          · obtain rfl : n = 48 := by omega
            rw [grown_all] at hX
            clear hlt hn
            have hL : ((sched xs 48).map wv).length = 64 := by rw [List.length_map, sched_len]
            have hO : (((sched xs 48).map wv).toArray).all (·.oneCell') = true := all_oneCell_toArray fun v hv => by
              obtain ⟨x, _, rfl⟩ := List.mem_map.1 hv
              rfl
            have HL := Lib.hid hL
            have HO := Lib.hid hO
            clear hL hO
            obtain ⟨R, hRe⟩ : ∃ R, R = (sched xs 48).map wv := ⟨_, rfl⟩
            have HRE := Lib.hid hRe
            rw [← hRe] at hX HL HO
            clear hRe
            go_upto_region 14 with fail
            have i64 : (Tryd.prog.info? 83).map (·.size) = some R.length := by rw [HL.out]; exact size64
            have hl : ((List.replicate 64 (0 : UInt32)).map wv).length = R.length := by rw [HL.out]; rfl
            have I64 := Lib.hid i64
            have HLL := Lib.hid hl
            clear i64 hl
            go_wp2_with (first | (refine wpList_load_box rfl _ _ rfl hX rfl Tryd.underlying83 rfl I64.out ?_) | (refine wpList_store_box rfl _ _ _ rfl hR rfl rfl I64.out HLL.out HO.out ?_; intro W hW))
            exact bodyPost_ret (v := .agg R.toArray) (results_box Tryd.results50 hW.box rfl Tryd.underlying83 rfl I64.out) rfl ⟨by rw [HRE.out], hW.below _ _ (Nat.le_refl _) hB⟩

end Go.Proofs.YtfobjdkpdeiidaaDoor
