/-
  sha.block: a block taken in.
-/
import Derived.Test.YtfobjdkpdeiidaaDoorShaA
namespace Go.Proofs.YtfobjdkpdeiidaaDoor
open Go.RowKit

/-- The package's variables hold the constants and the first words. -/
structure LaidS (w : World) : Prop where
  k : ∀ t, t < 64 → w.cell? ⟨1, t, none⟩ = some (.int .u32 (un (shaK.getD t 0)))
  f : ∀ t, t < 8 → w.cell? ⟨0, t, none⟩ = some (.int .u32 (un (first.l.getD t 0)))
theorem LaidS.below {w w' : World} (h : LaidS w) (hb : Below w.heap.size w w') : LaidS w' := ⟨fun t ht => cell_below hb (h.k t ht), fun t ht => cell_below hb (h.f t ht)⟩
theorem LaidS.alloc {w : World} (h : LaidS w) (o : Obj) : LaidS (w.alloc o) := ⟨fun t ht => cell_alloc (h.k t ht), fun t ht => cell_alloc (h.f t ht)⟩
theorem LaidS.drew {w : World} (h : LaidS w) : LaidS w.drew := ⟨h.k, h.f⟩
theorem LaidS.drewN {w : World} (h : LaidS w) (n : Nat) : LaidS (w.drewN n) := ⟨h.k, h.f⟩

theorem turned_q (x : UInt32) (i j k : Nat) (m1 m2 m3 : Int) (h1 : Hid (m1 = (i : Int))) (h2 : Hid (m2 = (j : Int))) (h3 : Hid (m3 = (k : Int))) (h : (0 < i ∧ i < 32) ∧ (0 < j ∧ j < 32) ∧ (0 < k ∧ k < 32)) (w : World) :
    Calls Tryd.prog 51 #[.int .u32 (un x), .int .i64 m1, .int .i64 m2, .int .i64 m3] w fun e w' => e = .returned (.int .u32 (un (tri x i j k))) ∧ w' = w :=
  (turned_any x m1 m2 m3 i j k h1 h2 h3 h.1.1 h.1.2 h.2.1.1 h.2.1.2 h.2.2.1 h.2.2.2 w).mono fun _ _ ⟨he, hw⟩ => ⟨he, hw.symm⟩

def hv (h : W8) : List Value := [.int .u32 (un h.a), .int .u32 (un h.b), .int .u32 (un h.c), .int .u32 (un h.d), .int .u32 (un h.e), .int .u32 (un h.f), .int .u32 (un h.g), .int .u32 (un h.z)]
theorem hv_one (h : W8) : (hv h).toArray.all (·.oneCell') = true := all_oneCell_toArray fun v hm => by
  simp only [hv, List.mem_cons, List.not_mem_nil, or_false] at hm
  rcases hm with rfl | rfl | rfl | rfl | rfl | rfl | rfl | rfl <;> rfl
theorem size8 : (Tryd.prog.info? 59).map (·.size) = some 8 := by kernel_rfl

set_option maxRecDepth 100000 in
set_option maxHeartbeats 1600000 in
theorem block_any (h : W8) (at0 : Option Addr) (cap : Nat) (xs : List Int) (w : World) (hi : Ints w .u8 at0 cap xs) (hl : xs.length = 64) (hx : ∀ k, k < 64 → 0 ≤ nth xs k ∧ nth xs k < 256) (hL : LaidS w) :
    Calls Tryd.prog 47 #[.agg #[.int .u32 (un h.a), .int .u32 (un h.b), .int .u32 (un h.c), .int .u32 (un h.d), .int .u32 (un h.e), .int .u32 (un h.f), .int .u32 (un h.g), .int .u32 (un h.z)], .slice at0 xs.length cap] w fun e w' =>
      e = .returned (.agg (hv (taken h xs)).toArray) ∧ Below w.heap.size w w' := by
  have HL := Lib.hid hl
  have HX := Lib.hid hx
  have HS := Lib.hid hL
  have HI := Lib.hid hi
  clear hl hx hL hi
  go_enter Tryd.func47, Tryd.ntmps47
  go_wp2_with fail
  refine (schedule_any at0 cap xs _ ((HI.out.alloc _).alloc _) HL.out HX.out).mono ?_
  rintro e w1 ⟨rfl, hb⟩
  have hB1 : Below w.heap.size w w1 := below_thru (by go_grown) hb
  have hxh : Box w1 w.heap.size (hv h) := Box.below (Box.alloc (Box.newc rfl rfl) _) hb
  have hxr : Box w1 (w.heap.size + 1) (List.replicate 8 (.int .u32 0)) := Box.below (Box.newc rfl (by simp)) hb
  have hz := hxr.lt
  have hs1 := hB1.size
  clear hb
  obtain ⟨R, hRe⟩ : ∃ R, R = (sched xs 48).map wv := ⟨_, rfl⟩
  have hRl : R.length = 64 := by rw [hRe, List.length_map, sched_len]
  have hRg : ∀ t, t < 64 → R[t]? = some (.int .u32 (un ((sched xs 48).getD t 0))) := fun t ht => by
    rw [hRe]
    exact getD_map_wv wv _ t (by rw [sched_len]; omega)
  have hRo : R.toArray.all (·.oneCell') = true := all_oneCell_toArray fun v hv => by
    rw [hRe] at hv
    obtain ⟨x, _, rfl⟩ := List.mem_map.1 hv
    rfl
  rw [← hRe]
  have HRL := Lib.hid hRl
  have HRO := Lib.hid hRo
  have HRG := Lib.hid hRg
  have I64 := Lib.hid (show (Tryd.prog.info? 83).map (·.size) = some R.length by rw [hRl]; exact size64)
  have HZL := Lib.hid (show ((List.replicate 64 (0 : UInt32)).map wv).length = R.length by rw [hRl]; rfl)
  clear hRe hRl hRo hRg
  go_wp2_with (refine wpList_store_box rfl _ _ _ rfl (Box.newc (l := (List.replicate 64 (0 : UInt32)).map wv) rfl rfl) rfl rfl I64.out HZL.out HRO.out ?_; intro W hW)
  have hB2 : Below w.heap.size w W := hW.below _ _ hs1 (hB1.alloc hs1 _)
  have hxh2 : Box W w.heap.size (hv h) := hW.past _ _ (by omega) (hxh.alloc _)
  have hxr2 : Box W (w.heap.size + 1) (List.replicate 8 (.int .u32 0)) := hW.past _ _ (by omega) (hxr.alloc _)
  have hxw := hW.box
  clear hW hB1 hxh hxr
  have c0 : W.cell? ⟨w.heap.size, 0, none⟩ = some (.int .u32 (un h.a)) := hxh2.c 0 _ rfl
  have c1 : W.cell? ⟨w.heap.size, 1, none⟩ = some (.int .u32 (un h.b)) := hxh2.c 1 _ rfl
  have c2 : W.cell? ⟨w.heap.size, 2, none⟩ = some (.int .u32 (un h.c)) := hxh2.c 2 _ rfl
  have c3 : W.cell? ⟨w.heap.size, 3, none⟩ = some (.int .u32 (un h.d)) := hxh2.c 3 _ rfl
  have c4 : W.cell? ⟨w.heap.size, 4, none⟩ = some (.int .u32 (un h.e)) := hxh2.c 4 _ rfl
  have c5 : W.cell? ⟨w.heap.size, 5, none⟩ = some (.int .u32 (un h.f)) := hxh2.c 5 _ rfl
  have c6 : W.cell? ⟨w.heap.size, 6, none⟩ = some (.int .u32 (un h.g)) := hxh2.c 6 _ rfl
  have c7 : W.cell? ⟨w.heap.size, 7, none⟩ = some (.int .u32 (un h.z)) := hxh2.c 7 _ rfl
  go_wp2_with fail
  go_quiet (fail)
  go_wp2_with fail
  clear c0 c1 c2 c3 c4 c5 c6 c7
  go_loopw [6, 7, 8, 9, 10, 11, 12, 13, 35] (fun a b c d e f g z i wr => ∃ (t : Nat) (s : W8), t ≤ 64 ∧ i = .int .i64 t ∧ s = rounds (sched xs 48) h t ∧ a = .int .u32 (un s.a) ∧ b = .int .u32 (un s.b) ∧ c = .int .u32 (un s.c) ∧ d = .int .u32 (un s.d) ∧ e = .int .u32 (un s.e) ∧ f = .int .u32 (un s.f) ∧ g = .int .u32 (un s.g) ∧ z = .int .u32 (un s.z) ∧
    Box wr w.heap.size (hv h) ∧ Box wr (w.heap.size + 1) (List.replicate 8 (.int .u32 0)) ∧ Box wr w1.heap.size R ∧ Below w.heap.size w wr) (fun _ _ _ _ _ _ _ _ i _ => 64 - (intOf i).toNat)
  case atStart => exact ⟨0, h, by omega, rfl, rfl, rfl, rfl, rfl, rfl, rfl, rfl, rfl, rfl, hxh2.drewN _, hxr2.drewN _, hxw.drewN _, below_drewN hB2 _⟩
  case round =>
    clear hxh2 hxr2 hxw hB2
    obtain ⟨t, s, ht, rfl, hs, rfl, rfl, rfl, rfl, rfl, rfl, rfl, rfl, hxh, hxr, hxw, hB⟩ := hrel
    have HS' := Lib.hid hs
    clear hs
    by_cases hlt : t < 64
    · have ck := (HS.out.below hB).k t hlt
      have cw := hxw.c t _ (HRG.out t hlt)
      have X := un_xor
      have A := un_addm
      have N := un_and
      have V : ∀ b, bits .xor .u32 IntKind.u32.max (un b) = un (~~~ b) := un_not
      have S := Lib.hid (show rounds (sched xs 48) h (t + 1) = rnd (rounds (sched xs 48) h t) (shaK.getD t 0) ((sched xs 48).getD t 0) from rfl)
      rw [← HS'.out] at S
      generalize shaK.getD t 0 = kt at *
      generalize (sched xs 48).getD t 0 = wt at *
      go_wp2_with fail
      go_quiet ((go_at_call 51; exact Calls.quiet_of_same (turned_q s.e 6 11 25 _ _ _ (Lib.hid rfl) (Lib.hid rfl) (Lib.hid rfl) (by decide) _)))
      go_wp2_with fail
      refine (turned_q s.a 2 13 22 _ _ _ (Lib.hid rfl) (Lib.hid rfl) (Lib.hid rfl) (by decide) _).mono ?_
      rintro e w' ⟨rfl, rfl⟩
      go_wp2_with fail
      go_roundw
      case rel =>
        refine ⟨t + 1, rnd s kt wt, by omega, by go_num, S.out.symm, ?_, ?_, ?_, ?_, ?_, ?_, ?_, ?_, hxh.drewN _, hxr.drewN _, hxw.drewN _, below_drewN hB _⟩
        all_goals first | rfl | (refine congrArg (Value.int .u32) ?_; simp only [rnd, un, UInt32.toNat_add]; omega)
      case measure => simp [intOf]; omega
    · obtain rfl : t = 64 := by omega
      clear hlt ht
      have HT := Lib.hid (show taken h xs = plus h s by rw [HS'.out]; rfl)
      have A := un_addm
      have c0 : wr.cell? ⟨w.heap.size, 0, none⟩ = some (.int .u32 (un h.a)) := hxh.c 0 _ rfl
      have c1 : wr.cell? ⟨w.heap.size, 1, none⟩ = some (.int .u32 (un h.b)) := hxh.c 1 _ rfl
      have c2 : wr.cell? ⟨w.heap.size, 2, none⟩ = some (.int .u32 (un h.c)) := hxh.c 2 _ rfl
      have c3 : wr.cell? ⟨w.heap.size, 3, none⟩ = some (.int .u32 (un h.d)) := hxh.c 3 _ rfl
      have c4 : wr.cell? ⟨w.heap.size, 4, none⟩ = some (.int .u32 (un h.e)) := hxh.c 4 _ rfl
      have c5 : wr.cell? ⟨w.heap.size, 5, none⟩ = some (.int .u32 (un h.f)) := hxh.c 5 _ rfl
      have c6 : wr.cell? ⟨w.heap.size, 6, none⟩ = some (.int .u32 (un h.g)) := hxh.c 6 _ rfl
      have c7 : wr.cell? ⟨w.heap.size, 7, none⟩ = some (.int .u32 (un h.z)) := hxh.c 7 _ rfl
      go_upto_region 10 with fail
      go_wp2_with (refine wpList_store_box (cs := hv (plus h s)) rfl _ _ _ rfl hxr rfl rfl size8 rfl (hv_one _) ?_; intro W3 hW3)
      exact bodyPost_ret (v := .agg (hv (plus h s)).toArray) (results_box Tryd.results47 hW3.box rfl Tryd.underlying59 rfl size8) rfl ⟨by rw [HT.out], hW3.below _ _ (Nat.le_succ _) hB⟩

end Go.Proofs.YtfobjdkpdeiidaaDoor
