/-
  The reference of layer 6: pads, the inner and the outer sum, the tag.
-/
import Derived.Test.YtfobjdkpdeiidaaDoorMRefA
namespace Go.Proofs.YtfobjdkpdeiidaaDoor
open Go.RowKit

/-- append onto a row of the call's own, as a step of a region that draws its order. -/
theorem step_append_own {P : Program} {ops : Array Oper} {o : Oper} {a : Act} {w : World} {K : Act → World → Prop} {Q : Exit → Act → World → Prop} {E : Prop} (hgd : o.guard = none) (s x : Operand) (t : TypeId)
    (ho : o.op = .call { callee := .builtin .append, args := #[s, x], argTypes := #[t, t] })
    (base : Nat) (e : TypeId) (i : TypeInfo) (z : Value) (bytes : Nat) (k : IntKind) (ht : P.underlying t = some (.slice e)) (hi : P.info? e = some i) (hz : i.zero = some z)
    (hsize : i.size = 1) (hby : i.bytes = bytes) (hzs : z.cells.size = 1)
    (v : Value) (ys xs : List Int) (v2 : Value) (hs : a.eval s = v) (hx : a.eval x = v2) (hown : w.ownsRow base e 1 v ys.length (ys.map (Value.int k))) (hin : IsL w k v2 xs)
    (h63 : ys.length + xs.length ≤ maxLen) (hbytes : (ys.length + xs.length) * bytes ≤ 140737488355328) (hbase : base ≤ w.heap.size)
    (h : ∀ v' w', w'.ownsRow base e 1 v' (ys ++ xs).length ((ys ++ xs).map (Value.int k)) → Below base w w' → K (a.put o.dst v') w') : if Region.wanted o (yielded ops a.tmps) = true then Oper.wp P o a w K Q else E := by
  rw [if_pos (by simp [Region.wanted, hgd])]
  obtain ⟨a2, c2, rfl, hi2, h02⟩ := hin
  refine wp_append_ints s x t ho base e i z bytes k ht hi hz hsize hby hzs v ys.length _ hs hown a2 c2 xs hx hi2 h02 h63 hbytes hbase (fun v' w' h1 h2 => h v' w' ?_ ?_)
  · rw [List.length_append, List.map_append]
    exact h1
  · exact (Below.refl _ w).grown h2 hbase (own_block hown)

set_option maxRecDepth 100000 in
set_option maxHeartbeats 1600000 in
theorem rpads_many {a0 : Option Addr} {n c0 : Nat} (w : World) (hl : 200 < n) (hm : n ≤ 9223372036854775807) :
    Calls Tryd.prog 17 #[.slice a0 n c0] w fun e w' => e = .returned (.tuple #[av zeros64, av zeros64, .int .i64 4]) ∧ Below w.heap.size w w' := by
  go_enter Tryd.func17, Tryd.ntmps17
  go_upto_region 1 with fail
  go_cut [2, 3, 5, 6] (fun p q r s wx => p = .pointer (some ⟨w.heap.size, 0, none⟩) ∧ q = .pointer (some ⟨w.heap.size + 1, 0, none⟩) ∧ r = .pointer (some ⟨w.heap.size + 2, 0, none⟩) ∧ s = .pointer (some ⟨w.heap.size + 3, 0, none⟩) ∧ Box wx w.heap.size zero64 ∧ Box wx (w.heap.size + 1) zero64 ∧ Box wx (w.heap.size + 2) zero64 ∧ Box wx (w.heap.size + 3) zero64 ∧ Below w.heap.size w wx)
  case first =>
    go_wp2_with fail
    go_meet
    exact ⟨rfl, rfl, rfl, rfl, Box.alloc (Box.alloc (Box.alloc (Box.newc rfl rfl) _) _) _, Box.alloc (Box.alloc (Box.newc rfl (by simp)) _) _, Box.alloc (Box.newc rfl (by simp)) _, Box.newc rfl (by simp), by go_grown⟩
  case rest =>
    obtain ⟨rfl, rfl, rfl, rfl, hx4, hx5, hx6, hx7, hB2⟩ := hcut
    obtain ⟨w2, rfl⟩ : ∃ u : World, u = wc := ⟨_, rfl⟩
    go_upto_region 3 with fail
    refine wp_region_held_drew (S := fun w' => Box w' (w.heap.size + 2) zero64 ∧ Box w' (w.heap.size + 3) zero64) (by kernel_rfl) (⟨hx6.drew, hx7.drew⟩) (fun _ => ?_)
    refine F_drew (F := fun W => wpAnyH _ _ _ _ _ _ _ _ W) ?_
    intro W0 hb0
    have hx0 := hx4.below hb0
    have hy0 := hx5.below hb0
    have hp0 := hx6.below hb0
    have hq0 := hx7.below hb0
    have hB0 := below_thru hB2 hb0
    clear hx4 hx5 hx6 hx7 hB2 hb0
    refine takeH 0 13 (v := .agg (zero64).toArray) rfl (by rfl) (by kernel_rfl) (by kernel_rfl) (by kernel_rfl) (fun _ _ _ h => h) (yieldsIf_load_mid (by rfl) _ _ rfl _ 0 rfl (zero64) _ (fun wq hq => Box.range hq.1) Tryd.underlying26 rfl size_b64) (⟨hp0, hq0⟩) ?_
    try simp only [Act.put, List.setIfInBounds_toArray, List.set_cons_zero, List.set_cons_succ]
    refine takeH 1 14 (v := .agg (zero64).toArray) rfl (by rfl) (by kernel_rfl) (by kernel_rfl) (by kernel_rfl) (fun _ _ _ h => h) (yieldsIf_load_mid (by rfl) _ _ rfl _ 0 rfl (zero64) _ (fun wq hq => Box.range hq.2) Tryd.underlying26 rfl size_b64) (⟨hp0, hq0⟩) ?_
    try simp only [Act.put, List.setIfInBounds_toArray, List.set_cons_zero, List.set_cons_succ]
    refine wpAnyH_ready (rs := [2]) (by kernel_rfl) (by simp) (AllReadyH.cons rfl (fun K hK => ?_) AllReadyH.nil)
    refine step_store_box0 (cs := zero64) rfl rfl _ _ _ rfl hx0 rfl rfl size_b64 rfl (oneCell_ints _) ?_
    intro W1 hW1
    have hx1 := hW1.box; have hy1 := hW1.past _ _ (by omega) hy0; have hp1 := hW1.past _ _ (by omega) hp0; have hq1 := hW1.past _ _ (by omega) hq0; have hB1 := hW1.below _ _ (by omega) hB0
    refine hK.out _ _ (⟨hp1, hq1⟩) (fun _ => ?_); clear hK K
    refine wpAnyH_ready (rs := [3]) (by kernel_rfl) (by simp) (AllReadyH.cons rfl (fun K hK => ?_) AllReadyH.nil)
    refine step_store_box0 (cs := zero64) rfl rfl _ _ _ rfl hy1 rfl rfl size_b64 rfl (oneCell_ints _) ?_
    intro W2 hW2
    have hy2 := hW2.box; have hx2 := hW2.past _ _ (by omega) hx1; have hp2 := hW2.past _ _ (by omega) hp1; have hq2 := hW2.past _ _ (by omega) hq1; have hB2 := hW2.below _ _ (by omega) hB1
    refine hK.out _ _ (⟨hp2, hq2⟩) (fun _ => ?_); clear hK K
    refine takeH 4 4 (v := ?va4_3) rfl (by rfl) (by kernel_rfl) (by kernel_rfl) (by kernel_rfl) (fun _ _ _ h => h) (Or.inl ⟨by rfl, ?_⟩) (⟨hp2, hq2⟩) ?_
    rotate_left
    · intro wq hSq
      go_simp
      exact rfl
    try simp only [Act.put, List.setIfInBounds_toArray, List.set_cons_zero, List.set_cons_succ]
    refine wpAnyH_done (by kernel_rfl) ?_ _
    go_wp2_with fail
    exact bodyPost_ret (v := .tuple #[av zeros64, av zeros64, .int .i64 4]) (results_box3 Tryd.results17 hx2 hy2 rfl rfl rfl Tryd.underlying26 rfl size_b64 size_b64) rfl ⟨rfl, hB2⟩

/-- The first k numbers of a list over zeros. -/
def overZ (P : List Int) (k : Nat) : List Int := P.take k ++ List.replicate (64 - k) 0
theorem overZ_zero (P : List Int) : overZ P 0 = zeros64 := by simp [overZ, zeros64]
theorem overZ_all {P : List Int} (h : P.length = 64) : overZ P 64 = P := by
  unfold overZ
  rw [List.take_of_length_le (by omega)]
  simp
theorem overZ_len {P : List Int} (h : P.length = 64) (k : Nat) (hk : k ≤ 64) : (overZ P k).length = 64 := by
  unfold overZ
  rw [List.length_append, List.length_take, List.length_replicate]
  omega
theorem overZ_succ {P : List Int} (h : P.length = 64) (k : Nat) (hk : k < 64) : (overZ P k).set k (nth P k) = overZ P (k + 1) := by
  have hl : (P.take k).length = k := by rw [List.length_take]; omega
  have hn : nth P k = P[k]'(by omega) := by
    unfold nth
    rw [List.getD_eq_getElem?_getD, List.getElem?_eq_getElem (by omega), Option.getD_some]
  unfold overZ
  rw [List.set_append_right _ _ (by omega), hl, Nat.sub_self, show 64 - k = (64 - (k + 1)) + 1 by omega, List.replicate_succ, List.set_cons_zero, List.take_succ_eq_append_getElem (by omega), hn, List.append_assoc]
  rfl
set_option maxRecDepth 100000 in
set_option maxHeartbeats 3200000 in
theorem rpads_ok {v : Value} {K P Q : List Int} (w : World) (hi : Hid (IsL w .u8 v K)) (hl : K.length ≤ 200) (hk : Hid (bytesL K)) (hP : Hid (padI K = P)) (hQ : Hid (padO K = Q)) :
    Calls Tryd.prog 17 #[v] w fun e w' => e = .returned (.tuple #[av P, av Q, .int .i64 0]) ∧ Below w.heap.size w w' := by
  have hpl : P.length = 64 := by rw [← hP.out, padI_len]
  have hql : Q.length = 64 := by rw [← hQ.out, padO_len]
  have HP := Lib.hid hpl
  have HQ := Lib.hid hql
  have J1 := Lib.hid (size_of64 hpl)
  have K1 := Lib.hid (len_of64 hpl)
  have J2 := Lib.hid (size_of64 hql)
  have K2 := Lib.hid (len_of64 hql)
  obtain ⟨a0, c0, rfl, hin, _⟩ := id hi.out
  have m1 := hin.room
  have m2 := hin.most
  clear hpl hql hin
  go_enter Tryd.func17, Tryd.ntmps17
  go_upto_region 1 with fail
  go_cut [2, 3, 5, 6] (fun p q r s wx => p = .pointer (some ⟨w.heap.size, 0, none⟩) ∧ q = .pointer (some ⟨w.heap.size + 1, 0, none⟩) ∧ r = .pointer (some ⟨w.heap.size + 2, 0, none⟩) ∧ s = .pointer (some ⟨w.heap.size + 3, 0, none⟩) ∧ Box wx w.heap.size zero64 ∧ Box wx (w.heap.size + 1) zero64 ∧ Box wx (w.heap.size + 2) zero64 ∧ Box wx (w.heap.size + 3) zero64 ∧ Below w.heap.size w wx)
  case first =>
    go_wp2_with fail
    go_meet
    exact ⟨rfl, rfl, rfl, rfl, Box.alloc (Box.alloc (Box.alloc (Box.newc rfl rfl) _) _) _, Box.alloc (Box.alloc (Box.newc rfl (by simp)) _) _, Box.alloc (Box.newc rfl (by simp)) _, Box.newc rfl (by simp), by go_grown⟩
  case rest =>
    obtain ⟨rfl, rfl, rfl, rfl, hx4, hx5, hx6, hx7, hB1⟩ := hcut
    obtain ⟨w1, rfl⟩ : ∃ u : World, u = wc := ⟨_, rfl⟩
    have hz1 := hx7.lt
    have hz2 := hB1.size
    go_wp2_with fail
    refine (rmixed_is 54 _ (Lib.hid (hi.out.below hB1)) (by omega) hk hP).mono ?_
    rintro e w2 ⟨u1, rfl, ho1, hb⟩
    have hB2 := below_thru hB1 hb
    have hx4 := hx4.below hb
    have hx5 := hx5.below hb
    have hx6 := hx6.below hb
    have hx7 := hx7.below hb
    rw [HP.out] at ho1
    obtain ⟨ga, ca, rfl, hga, hgal⟩ := ho1.form (by omega)
    obtain ⟨_, ca', e', hca, hcam⟩ := own_sl ho1
    obtain rfl : ca = ca' := by injection e'
    have hz4 := hb.size
    have cA := Lib.hid (fun (i : Nat) (hi : i < 64) => (show w2.cell? ⟨ga, i, none⟩ = some (.int .u8 (nth P i)) by rw [ho1.cellAt i (by omega), nth_at i (by rw [HP.out]; exact hi)]))
    clear hb hB1 ho1 e'
    go_wp2_with fail
    refine (rmixed_is 92 _ (Lib.hid (hi.out.below hB2)) (by omega) hk hQ).mono ?_
    rintro e w3 ⟨u2, rfl, ho2, hb⟩
    have hB3 := below_thru hB2 hb
    have hx4 := hx4.below hb
    have hx5 := hx5.below hb
    have hx6 := hx6.below hb
    have hx7 := hx7.below hb
    rw [HQ.out] at ho2
    obtain ⟨gb, cb, rfl, hgb, hgbl⟩ := ho2.form (by omega)
    obtain ⟨_, cb', e', hcb, hcbm⟩ := own_sl ho2
    obtain rfl : cb = cb' := by injection e'
    have cB := Lib.hid (fun (i : Nat) (hi : i < 64) => (show w3.cell? ⟨gb, i, none⟩ = some (.int .u8 (nth Q i)) by rw [ho2.cellAt i (by omega), nth_at i (by rw [HQ.out]; exact hi)]))
    have cA := Lib.hid (fun (i : Nat) (hi : i < 64) => cell_below hb (cA.out i hi))
    have hz3 := hb.size
    have nea : w.heap.size + 3 < ga := by omega
    have neb : w.heap.size + 3 < gb := by omega
    clear hb hB2 ho2 e' hga hgal hgb hgbl hi hz1 hz2 hz3 hz4
    go_wp2_with fail
    go_loopw [9] (fun i wr => ∃ k : Nat, k ≤ 64 ∧ i = .int .i64 k ∧ Hid (∀ i, i < 64 → wr.cell? ⟨ga, i, none⟩ = some (.int .u8 (nth P i))) ∧ Hid (∀ i, i < 64 → wr.cell? ⟨gb, i, none⟩ = some (.int .u8 (nth Q i))) ∧ Box wr w.heap.size zero64 ∧ Box wr (w.heap.size + 1) zero64 ∧ Box wr (w.heap.size + 2) ((overZ P k).map (Value.int .u8)) ∧ Box wr (w.heap.size + 3) ((overZ Q k).map (Value.int .u8)) ∧ Below w.heap.size w wr) (fun i _ => 64 - (intOf i).toNat)
    case atStart => exact ⟨0, by omega, rfl, cA, cB, hx4, hx5, by rw [overZ_zero]; exact hx6, by rw [overZ_zero]; exact hx7, hB3⟩
    case round =>
      clear cA cB hx4 hx5 hx6 hx7 hB3
      obtain ⟨k, hkk, rfl, cA, cB, hx4, hx5, hx6, hx7, hB⟩ := hrel
      by_cases hlt : k < 64
      · have a1 := cA.out k hlt
        have b1 := cB.out k hlt
        have S1 := Lib.hid (overZ_succ HP.out k hlt)
        have S2 := Lib.hid (overZ_succ HQ.out k hlt)
        have p1 := hx6.c k _ (nth_at k (by rw [overZ_len HP.out k hkk]; exact hlt))
        have p2 := hx6.f k _ (nth_at k (by rw [overZ_len HP.out k hkk]; exact hlt))
        have q1 := hx7.c k _ (nth_at k (by rw [overZ_len HQ.out k hkk]; exact hlt))
        have q2 := hx7.f k _ (nth_at k (by rw [overZ_len HQ.out k hkk]; exact hlt))
        have l6 := hx6.lt
        have l7 := hx7.lt
        generalize nth P k = x at a1 S1
        generalize nth Q k = y at b1 S2
        generalize nth (overZ P k) k = x' at p1
        generalize nth (overZ Q k) k = y' at q1
        go_upto_region 8 with fail
        go_region_held3 (fun w' => w'.cell? ⟨ga, k, none⟩ = some (.int .u8 x) ∧ w'.cell? ⟨gb, k, none⟩ = some (.int .u8 y)) ((repeat' apply And.intro) <;> (first | (go_keep; done) | go_cell)) (fail)
        go_wp2_with fail
        go_roundw
        case rel =>
          refine ⟨k + 1, by omega, by go_num, Lib.hid (fun i hi => ?_), Lib.hid (fun i hi => ?_), ?_, ?_, ?_, ?_, ?_⟩
          · show ((wr.setCell ⟨w.heap.size + 2, k, none⟩ (.int .u8 x)).setCell ⟨w.heap.size + 3, k, none⟩ (.int .u8 y)).cell? _ = _
            rw [World.cell?_setCell_other _ _ _ _ (by intro q; cases q; omega), World.cell?_setCell_other _ _ _ _ (by intro q; cases q; omega)]
            exact cA.out i hi
          · show ((wr.setCell ⟨w.heap.size + 2, k, none⟩ (.int .u8 x)).setCell ⟨w.heap.size + 3, k, none⟩ (.int .u8 y)).cell? _ = _
            rw [World.cell?_setCell_other _ _ _ _ (by intro q; cases q; omega), World.cell?_setCell_other _ _ _ _ (by intro q; cases q; omega)]
            exact cB.out i hi
          · exact Box.drew (Box.other (Box.other hx4 (by show w.heap.size + 2 ≠ w.heap.size; omega) _) (by show w.heap.size + 3 ≠ w.heap.size; omega) _)
          · exact Box.drew (Box.other (Box.other hx5 (by show w.heap.size + 2 ≠ w.heap.size + 1; omega) _) (by show w.heap.size + 3 ≠ w.heap.size + 1; omega) _)
          · rw [← S1.out, List.map_set]
            exact Box.drew (Box.other (Box.set hx6 k _) (by show w.heap.size + 3 ≠ w.heap.size + 2; omega) _)
          · rw [← S2.out, List.map_set]
            exact Box.drew (Box.set (Box.other hx7 (by show w.heap.size + 2 ≠ w.heap.size + 3; omega) _) k _)
          · exact Below.drew ((hB.setCell (show w.heap.size ≤ w.heap.size + 2 by omega) _).setCell (show w.heap.size ≤ w.heap.size + 3 by omega) _)
        case measure => simp [intOf]; omega
      · obtain rfl : k = 64 := by omega
        rw [overZ_all HP.out] at hx6
        rw [overZ_all HQ.out] at hx7
        go_upto_region 9 with fail
        refine wp_region_held_drew (S := fun w' => Box w' (w.heap.size + 2) (P.map (Value.int .u8)) ∧ Box w' (w.heap.size + 3) (Q.map (Value.int .u8))) (by kernel_rfl) (⟨hx6.drew, hx7.drew⟩) (fun _ => ?_)
        refine F_drew (F := fun W => wpAnyH _ _ _ _ _ _ _ _ W) ?_
        intro W0 hb0
        have hx0 := hx4.below hb0
        have hy0 := hx5.below hb0
        have hp0 := hx6.below hb0
        have hq0 := hx7.below hb0
        have hB0 := below_thru hB hb0
        clear hx4 hx5 hx6 hx7 hB hb0
        refine takeH 0 35 (v := .agg (P.map (Value.int .u8)).toArray) rfl (by rfl) (by kernel_rfl) (by kernel_rfl) (by kernel_rfl) (fun _ _ _ h => h) (yieldsIf_load_mid (by rfl) _ _ rfl _ 0 rfl (P.map (Value.int .u8)) _ (fun wq hq => Box.range hq.1) Tryd.underlying26 rfl J1.out) (⟨hp0, hq0⟩) ?_
        try simp only [Act.put, List.setIfInBounds_toArray, List.set_cons_zero, List.set_cons_succ]
        refine takeH 1 36 (v := .agg (Q.map (Value.int .u8)).toArray) rfl (by rfl) (by kernel_rfl) (by kernel_rfl) (by kernel_rfl) (fun _ _ _ h => h) (yieldsIf_load_mid (by rfl) _ _ rfl _ 0 rfl (Q.map (Value.int .u8)) _ (fun wq hq => Box.range hq.2) Tryd.underlying26 rfl J2.out) (⟨hp0, hq0⟩) ?_
        try simp only [Act.put, List.setIfInBounds_toArray, List.set_cons_zero, List.set_cons_succ]
        refine wpAnyH_ready (rs := [2]) (by kernel_rfl) (by simp) (AllReadyH.cons rfl (fun K hK => ?_) AllReadyH.nil)
        refine step_store_box0 (cs := P.map (Value.int .u8)) rfl rfl _ _ _ rfl hx0 rfl rfl J1.out K1.out (oneCell_ints _) ?_
        intro W1 hW1
        have hx1 := hW1.box; have hy1 := hW1.past _ _ (by omega) hy0; have hp1 := hW1.past _ _ (by omega) hp0; have hq1 := hW1.past _ _ (by omega) hq0; have hB1 := hW1.below _ _ (by omega) hB0
        refine hK.out _ _ (⟨hp1, hq1⟩) (fun _ => ?_); clear hK K
        refine wpAnyH_ready (rs := [3]) (by kernel_rfl) (by simp) (AllReadyH.cons rfl (fun K hK => ?_) AllReadyH.nil)
        refine step_store_box0 (cs := Q.map (Value.int .u8)) rfl rfl _ _ _ rfl hy1 rfl rfl J2.out K2.out (oneCell_ints _) ?_
        intro W2 hW2
        have hy2 := hW2.box; have hx2 := hW2.past _ _ (by omega) hx1; have hp2 := hW2.past _ _ (by omega) hp1; have hq2 := hW2.past _ _ (by omega) hq1; have hB2 := hW2.below _ _ (by omega) hB1
        refine hK.out _ _ (⟨hp2, hq2⟩) (fun _ => ?_); clear hK K
        refine takeH 4 4 (v := ?va4_3) rfl (by rfl) (by kernel_rfl) (by kernel_rfl) (by kernel_rfl) (fun _ _ _ h => h) (Or.inl ⟨by rfl, ?_⟩) (⟨hp2, hq2⟩) ?_
        rotate_left
        · intro wq hSq
          go_simp
          exact rfl
        try simp only [Act.put, List.setIfInBounds_toArray, List.set_cons_zero, List.set_cons_succ]
        refine wpAnyH_done (by kernel_rfl) ?_ _
        go_wp2_with fail
        exact bodyPost_ret (v := .tuple #[av P, av Q, .int .i64 0]) (results_box3 Tryd.results17 hx2 hy2 rfl rfl rfl Tryd.underlying26 rfl J1.out J2.out) rfl ⟨rfl, hB2⟩

theorem rpads_any {v : Value} {K P Q : List Int} {x : Int} (w : World) (hi : Hid (IsL w .u8 v K)) (hk : Hid (bytesL K)) (hP : Hid (padsOut K = (P, Q, x))) :
    Calls Tryd.prog 17 #[v] w fun e w' => e = .returned (.tuple #[av P, av Q, .int .i64 x]) ∧ Below w.heap.size w w' := by
  have h := hP.out
  unfold padsOut at h
  by_cases q : 200 < K.length
  · rw [if_pos q] at h
    injection h with e1 e2
    injection e2 with e2 e3
    subst e1 e2 e3
    obtain ⟨a0, c0, rfl, hin, _⟩ := id hi.out
    exact rpads_many w q (Nat.le_trans hin.room hin.most)
  · rw [if_neg q] at h
    injection h with e1 e2
    injection e2 with e2 e3
    subst e3
    exact rpads_ok w hi (by omega) hk (Lib.hid e1) (Lib.hid e2)

end Go.Proofs.YtfobjdkpdeiidaaDoor
