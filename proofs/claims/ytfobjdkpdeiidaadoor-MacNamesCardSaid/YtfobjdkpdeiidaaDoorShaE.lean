/-
  Package sha: digests, the first hash, all whole blocks taken in.
-/
import Derived.Test.YtfobjdkpdeiidaaDoorShaD
namespace Go.Proofs.YtfobjdkpdeiidaaDoor
open Go.RowKit

/-- A digest as a value. -/
def dv (D : List Int) : Value := .agg (D.map (Value.int .u8)).toArray
theorem size32 : (Tryd.prog.info? 31).map (·.size) = some 32 := by kernel_rfl
theorem hv_get (h : W8) (i : Nat) (hi : i < 8) : (hv h)[i]? = some (.int .u32 (un (h.l.getD i 0))) := getD_map_wv (fun x => Value.int .u32 (un x)) h.l i hi
set_option maxRecDepth 100000 in
set_option maxHeartbeats 1600000 in
theorem digest_any (h : W8) (w : World) : Calls Tryd.prog 43 #[.agg (hv h).toArray] w fun e w' => e = .returned (dv (dig h)) ∧ Below w.heap.size w w' := by
  obtain ⟨V, hV⟩ : ∃ V, V = hv h := ⟨_, rfl⟩
  have hVg : ∀ i, i < 8 → V[i]? = some (.int .u32 (un (h.l.getD i 0))) := by rw [hV]; exact hv_get h
  rw [← hV]
  have HG := Lib.hid hVg
  clear hVg hV
  go_enter Tryd.func43, Tryd.ntmps43
  go_upto_region 1 with fail
  go_cut [1, 2, 3] (fun p q r wx => p = .pointer (some ⟨w.heap.size, 0, none⟩) ∧ q = .pointer (some ⟨w.heap.size + 1, 0, none⟩) ∧ r = .pointer (some ⟨w.heap.size + 2, 0, none⟩) ∧ Box wx w.heap.size V ∧ Box wx (w.heap.size + 1) ((List.replicate 32 (0 : Int)).map (Value.int .u8)) ∧ Box wx (w.heap.size + 2) ((digS h 0).map (Value.int .u8)) ∧ Below w.heap.size w wx)
  case first =>
    go_wp2_with fail
    go_meet
    refine ⟨rfl, rfl, rfl, Box.alloc (Box.alloc (Box.newc (by simp) rfl) _) _, Box.alloc (Box.newc rfl (by simp)) _, Box.newc (by rw [digS_zero]; rfl) (by simp), ?_⟩
    go_grown
  case rest =>
    obtain ⟨rfl, rfl, rfl, hV, hR, hX, hB⟩ := hcut
    obtain ⟨w1, rfl⟩ : ∃ u : World, u = wc := ⟨_, rfl⟩
    go_wp2_with fail
    go_loopw [5] (fun i wr => ∃ k : Nat, k ≤ 32 ∧ i = .int .i64 k ∧ Box wr w.heap.size V ∧ Box wr (w.heap.size + 1) ((List.replicate 32 (0 : Int)).map (Value.int .u8)) ∧ Box wr (w.heap.size + 2) ((digS h k).map (Value.int .u8)) ∧ Below w.heap.size w wr) (fun i _ => 32 - (intOf i).toNat)
    case atStart => exact ⟨0, by omega, rfl, hV, hR, hX, hB⟩
    case round =>
      clear hV hR hX hB
      obtain ⟨k, hk, rfl, hV, hR, hX, hB⟩ := hrel
      have z1 := hX.lt
      by_cases hlt : k < 32
      · have c0 := hV.c (k / 4) _ (HG.out (k / 4) (by omega))
        have c1 := hX.c k _ (nth_get k (by rw [digS_len]; omega))
        have f1 := hX.f k _ (nth_get k (by rw [digS_len]; omega))
        obtain ⟨s, hs⟩ : ∃ s : Nat, s = 24 - k % 4 * 8 := ⟨_, rfl⟩
        have e1 : (24 : Int) - (k : Int) % 4 * 8 = (s : Int) := by omega
        have s1 : s ≤ 24 := by omega
        have E : un (h.l.getD (k / 4) 0) / 2 ^ s % 256 = digB h k := by rw [hs]; rfl
        have S := Lib.hid (digS_succ h k hlt)
        clear hs
        generalize h.l.getD (k / 4) 0 = v at *
        generalize digB h k = D at *
        go_wp2_with fail
        go_roundw
        case rel =>
          refine ⟨k + 1, by omega, by go_num, hV.other (by show w.heap.size + 2 ≠ w.heap.size; omega) _, hR.other (by show w.heap.size + 2 ≠ w.heap.size + 1; omega) _, ?_, hB.setCell (show w.heap.size ≤ w.heap.size + 2 by omega) _⟩
          rw [← S.out, List.map_set]
          exact hX.set k _
        case measure => simp [intOf]; omega
      · obtain rfl : k = 32 := by omega
        obtain ⟨R, hRe⟩ : ∃ R, R = (digS h 32).map (Value.int .u8) := ⟨_, rfl⟩
        have hRl : R.length = 32 := by rw [hRe, List.length_map, digS_len]
        have hRo : R.toArray.all (·.oneCell') = true := by rw [hRe]; exact oneCell_ints _
        have HRE := Lib.hid (show (Value.agg R.toArray) = dv (dig h) by rw [hRe, digS_all]; rfl)
        rw [← hRe] at hX
        clear hRe hlt hk
        have I32 := Lib.hid (show (Tryd.prog.info? 31).map (·.size) = some R.length by rw [hRl]; exact size32)
        have HLL := Lib.hid (show ((List.replicate 32 (0 : Int)).map (Value.int .u8)).length = R.length by rw [hRl]; rfl)
        have HRO := Lib.hid hRo
        clear hRl hRo
        go_upto_region 7 with fail
        go_wp2_with (first | (refine wpList_load_box rfl _ _ rfl hX rfl Tryd.underlying31 rfl I32.out ?_) | (refine wpList_store_box rfl _ _ _ rfl hR rfl rfl I32.out HLL.out HRO.out ?_; intro W3 hW3))
        exact bodyPost_ret (v := .agg R.toArray) (results_box Tryd.results43 hW3.box rfl Tryd.underlying31 rfl I32.out) rfl ⟨by rw [HRE.out], hW3.below _ _ (by omega) hB⟩

/-- A hash as a value: its words, its rest, its number. -/
def hashV (h : W8) (v : Value) (n : Int) : List Value := [.int .u32 (un h.a), .int .u32 (un h.b), .int .u32 (un h.c), .int .u32 (un h.d), .int .u32 (un h.e), .int .u32 (un h.f), .int .u32 (un h.g), .int .u32 (un h.z), v, .int .i64 n]
theorem size10 : (Tryd.prog.info? 61).map (·.size) = some 10 := by kernel_rfl
set_option maxRecDepth 100000 in
theorem start_any (w : World) (hL : LaidS w) : Calls Tryd.prog 31 #[] w fun e w' => e = .returned (.agg (hashV first (.slice none 0 0) 0).toArray) ∧ Below w.heap.size w w' := by
  have c0 : w.cell? ⟨0, 0, none⟩ = some (.int .u32 (un first.a)) := hL.f 0 (by omega)
  have c1 : w.cell? ⟨0, 1, none⟩ = some (.int .u32 (un first.b)) := hL.f 1 (by omega)
  have c2 : w.cell? ⟨0, 2, none⟩ = some (.int .u32 (un first.c)) := hL.f 2 (by omega)
  have c3 : w.cell? ⟨0, 3, none⟩ = some (.int .u32 (un first.d)) := hL.f 3 (by omega)
  have c4 : w.cell? ⟨0, 4, none⟩ = some (.int .u32 (un first.e)) := hL.f 4 (by omega)
  have c5 : w.cell? ⟨0, 5, none⟩ = some (.int .u32 (un first.f)) := hL.f 5 (by omega)
  have c6 : w.cell? ⟨0, 6, none⟩ = some (.int .u32 (un first.g)) := hL.f 6 (by omega)
  have c7 : w.cell? ⟨0, 7, none⟩ = some (.int .u32 (un first.z)) := hL.f 7 (by omega)
  have hz : 0 < w.heap.size := lt_of_cell c0
  clear hL
  generalize first = h at *
  go_enter Tryd.func31, Tryd.ntmps31
  go_wp2_with fail
  refine bodyPost_ret (v := .agg (hashV h (.slice none 0 0) 0).toArray) (by simp [results, Tryd.results31, go_sem, hashV]) rfl ⟨rfl, ?_⟩
  go_grown

/-- All whole blocks of bytes taken in: the words, and the bytes behind them. -/
def Takes (T : W8) (v0 : Value) (rs : List Int) (w : World) (e : Ending) (w' : World) : Prop := ∃ v, e = .returned (.tuple #[.agg (hv T).toArray, v]) ∧ IsL w' .u8 v rs ∧ v.ownBlock = v0.ownBlock ∧ Below w.heap.size w w'
theorem IsL.sub {w : World} {k : IntKind} {b off n c : Nat} {xs : List Int} (h : IsL w k (.slice (some ⟨b, off, Option.none⟩) n c) xs) (m : Nat) (hm : m ≤ n) : IsL w k (.slice (some ⟨b, off, Option.none⟩) m c) (xs.take m) := by
  obtain ⟨a', c', e, hi, h0⟩ := h
  injection e with e1 e2 e3
  subst e2 e3 e1
  exact ⟨_, _, by rw [List.length_take, Nat.min_eq_left hm], hi.take m hm, fun q => by cases q⟩
def lenOf : Value → Nat
  | .slice _ n _ => n
  | _ => 0
/-- A row of at least m numbers, and what is behind its first m. -/
theorem IsL.cut {w : World} {k : IntKind} {at0 : Option Addr} {n c : Nat} {xs : List Int} (h : IsL w k (.slice at0 n c) xs) (m : Nat) (hm : 0 < m) (hl : m ≤ n) :
    ∃ b off, at0 = some ⟨b, off, Option.none⟩ ∧ n = xs.length ∧ n ≤ c ∧ c ≤ 9223372036854775807 ∧ IsL w k (.slice (some ⟨b, off, Option.none⟩) m c) (xs.take m) ∧
      IsL w k (.slice (if c = m then some ⟨b, off, Option.none⟩ else some ⟨b, off + m, Option.none⟩) (n - m) (c - m)) (xs.drop m) := by
  obtain ⟨a', c', e, hi, h0⟩ := h
  injection e with e1 e2 e3
  subst e2 e3 e1
  have hr := hi.room
  have hM := hi.most
  obtain ⟨b, off, rfl, hc⟩ := hi.cells (by omega)
  refine ⟨b, off, rfl, rfl, hr, hM, ⟨_, _, by rw [List.length_take, Nat.min_eq_left hl], hi.take m hl, fun q => by cases q⟩, ⟨_, _, by rw [List.length_drop], ⟨by rw [List.length_drop]; omega, by omega, fun h1 => ?_⟩, fun q => by split at q <;> cases q⟩⟩
  rw [List.length_drop] at h1
  refine ⟨b, off + m, by rw [if_neg (by omega)], fun i hi2 => ?_⟩
  rw [List.length_drop] at hi2
  rw [nth_drop, Nat.add_assoc]
  exact hc (m + i) (by omega)
theorem after_step (h : W8) (xs : List Int) (hl : 64 ≤ xs.length) : after (taken h (xs.take 64)) (xs.drop 64) = after h xs := by
  unfold after
  rw [List.length_drop, show xs.length / 64 = (xs.length - 64) / 64 + 1 by omega]
  rfl
theorem rest_step (xs : List Int) (hl : 64 ≤ xs.length) : restOf (xs.drop 64) = restOf xs := by
  unfold restOf
  rw [List.length_drop, List.drop_drop]
  congr 1
  omega
set_option maxRecDepth 100000 in
theorem takeIn_any (h : W8) (v : Value) (xs : List Int) (w : World) (hi : IsL w .u8 v xs) (hx : bytesL xs) (hL : LaidS w) :
    Calls Tryd.prog 40 #[.agg (hv h).toArray, v] w (Takes (after h xs) v (restOf xs) w) := by
  have HX := Lib.hid hx
  have HS := Lib.hid hL
  have HI := Lib.hid hi
  clear hx hL hi
  obtain ⟨V, hV⟩ : ∃ V, V = hv h := ⟨_, rfl⟩
  rw [← hV]
  have HV := Lib.hid hV
  clear hV
  go_enter Tryd.func40, Tryd.ntmps40
  go_wp2_with fail
  go_loopw [1] (fun u wr => ∃ (T : W8) (zs : List Int), Hid (IsL w .u8 u zs) ∧ Hid (u.ownBlock = v.ownBlock) ∧ Hid (bytesL zs) ∧ Hid (after T zs = after h xs) ∧ Hid (restOf zs = restOf xs) ∧ Box wr w.heap.size (hv T) ∧ Box wr (w.heap.size + 1) (List.replicate 8 (.int .u32 0)) ∧ Below w.heap.size w wr) (fun u _ => lenOf u)
  case atStart => exact ⟨h, xs, HI, Lib.hid rfl, HX, Lib.hid rfl, Lib.hid rfl, Box.alloc (Box.newc (by rw [HV.out]) rfl) _, Box.newc rfl (by simp), by go_grown⟩
  case round =>
    obtain ⟨T, zs, hi, hob, hx, hA, hR, hT, hO, hB⟩ := hrel
    obtain ⟨at0, cap, e, hin, h0⟩ := hi.out
    subst e
    have hr := hin.room
    have hm := hin.most
    clear hin h0
    by_cases hge : 64 ≤ zs.length
    · obtain ⟨b, off, rfl, hn, hr2, hm2, hI1, hI2⟩ := hi.out.cut 64 (by omega) hge
      clear hn hr2 hm2
      have q1 := Lib.hid hI1
      have q2 := Lib.hid hI2
      clear hI1 hI2
      generalize hn : zs.length = n at *
      have HN := Lib.hid hn
      clear hn
      obtain ⟨p, hp⟩ : ∃ p : Option Addr, (if cap = 64 then some (⟨b, off, none⟩ : Addr) else some ⟨b, off + 64, none⟩) = p := ⟨_, rfl⟩
      rw [hp] at q2
      have hob2 := Lib.hid (show (Value.slice p (n - 64) (cap - 64)).ownBlock = v.ownBlock by rw [← hob.out, ← hp]; split <;> rfl)
      have hcap : (64 : Int) ≤ (cap : Int) := by omega
      go_wp2_with fail
      refine wp_region_any (by kernel_rfl) ?_
      try (change wpAny _ _ _ _ _ _ _ (World.drew _))
      refine wpAny_take (i := 1) (v := .slice (some ⟨b, off, none⟩) n cap) rfl (by kernel_rfl) (by kernel_rfl) (by kernel_rfl) (fun _ _ _ h => h) (Or.inl ⟨by rfl, ?_⟩) ?_
      · intro w; go_simp
      refine wpAny_take (i := 2) (v := .slice (some ⟨b, off, none⟩) 64 cap) rfl (by kernel_rfl) (by kernel_rfl) (by kernel_rfl) (fun _ _ _ h => h) (Or.inl ⟨by rfl, ?_⟩) ?_
      · intro w; go_simp
      refine wpAny_take (i := 4) (v := .slice (some ⟨b, off, none⟩) n cap) rfl (by kernel_rfl) (by kernel_rfl) (by kernel_rfl) (fun _ _ _ h => h) (Or.inl ⟨by rfl, ?_⟩) ?_
      · intro w; go_simp
      refine wpAny_take (i := 5) (v := .slice p (n - 64) (cap - 64)) rfl (by kernel_rfl) (by kernel_rfl) (by kernel_rfl) (fun _ _ _ h => h) (Or.inl ⟨by rfl, ?_⟩) ?_
      · intro w; go_simp
      refine wpAny_ready (rs := [0]) (by kernel_rfl) (by simp) (AllReady.cons rfl (fun K hK => ?_) AllReady.nil)
      refine step_load_box rfl _ _ rfl hT.drew rfl Tryd.underlying59 rfl size8 ?_
      refine hK _ _ ?_; clear hK K
      refine wpAny_ready (rs := [3]) (by kernel_rfl) (by simp) (AllReady.cons rfl (fun K hK => ?_) AllReady.nil)
      go_simp
      have hT1 := Lib.hid (show after (taken T (zs.take 64)) (zs.drop 64) = after h xs by rw [after_step _ _ (by have := HN.out; omega)]; exact hA.out)
      have hR1 := Lib.hid (show restOf (zs.drop 64) = restOf xs by rw [rest_step _ (by have := HN.out; omega)]; exact hR.out)
      have hx1 := Lib.hid (hx.out.take 64)
      have hx2 := Lib.hid (hx.out.drop 64)
      have hl1 := Lib.hid (show (zs.take 64).length = 64 by rw [List.length_take]; have := HN.out; omega)
      obtain ⟨T1, hTe⟩ : ∃ T1, taken T (zs.take 64) = T1 := ⟨_, rfl⟩
      rw [hTe] at hT1
      have HTe := Lib.hid hTe
      clear hTe
      refine (block_is _ HTe (q1.out.below hB).drew hl1 hx1 (HS.out.below hB).drew).mono ?_
      rintro e w1 ⟨rfl, hb⟩
      refine hK _ _ ?_; clear hK K
      have hB1 : Below w.heap.size w w1 := below_thru hB.drew hb
      have hT2 : Box w1 w.heap.size (hv T) := hT.drew.below hb
      have hO2 : Box w1 (w.heap.size + 1) (List.replicate 8 (.int .u32 0)) := hO.drew.below hb
      clear hb
      refine wpAny_ready (rs := [6]) (by kernel_rfl) (by simp) (AllReady.cons rfl (fun K hK => ?_) AllReady.nil)
      refine step_store_box (cs := hv T1) rfl _ _ _ rfl hT2 rfl rfl size8 rfl (hv_one _) ?_
      intro W hW
      refine hK _ _ ?_; clear hK K
      refine wpAny_ready (rs := [7]) (by kernel_rfl) (by simp) (AllReady.cons rfl (fun K hK => ?_) AllReady.nil)
      go_simp
      refine hK _ _ ?_; clear hK K
      refine wpAny_done (by kernel_rfl) ?_ _
      go_wp2_with fail
      go_roundw
      case rel => exact ⟨T1, zs.drop 64, q2, hob2, hx2, hT1, hR1, hW.box, hW.past _ _ (by omega) hO2, hW.below _ _ (Nat.le_refl _) hB1⟩
      case measure => simp [lenOf]; omega
    · have hA2 : T = after h xs := by
        rw [← hA.out]
        unfold after
        rw [show zs.length / 64 = 0 by omega]
        rfl
      have hR2 : zs = restOf xs := by
        rw [← hR.out]
        unfold restOf
        rw [show zs.length / 64 * 64 = 0 by omega]
        rfl
      have HA2 := Lib.hid hA2
      have HR2 := Lib.hid hR2
      clear hA2 hR2 hA hR
      have hge' : decide ((64 : Int) ≤ (zs.length : Int)) = false := decide_eq_false (by omega)
      clear hge
      go_wp2_with (first | (refine wpList_load_box rfl _ _ rfl hT rfl Tryd.underlying59 rfl size8 ?_) | (refine wpList_store_box (cs := hv T) rfl _ _ _ rfl hO rfl rfl size8 rfl (hv_one _) ?_; intro W hW))
      refine bodyPost_ret (v := .tuple #[.agg (hv T).toArray, .slice at0 zs.length cap]) (results_box2 Tryd.results40 hW.box rfl rfl Tryd.underlying59 rfl size8) rfl ⟨_, by rw [← HA2.out], ?_, hob.out, hW.below _ _ (Nat.le_succ _) hB⟩
      rw [← HR2.out]
      exact hi.out.below (hW.below _ _ (Nat.le_succ _) hB)

end Go.Proofs.YtfobjdkpdeiidaaDoor
