/-
  ShaWrites, walked: it returns true.
-/
import Derived.Test.YtlddlkapabmoeaaDoorRf05G
namespace Go.Proofs.YtlddlkapabmoeaaDoor
open Go.RowKit

theorem own_len {w : World} {B e : Nat} {v : Value} {n : Nat} {l : List Value} (h : w.ownsRow B e 1 v n l) : ∃ a c, v = .slice a n c := by
  rcases h.2 with ⟨rfl, rfl⟩ | ⟨g, cap, cur, rfl, _⟩
  · exact ⟨none, 0, rfl⟩
  · exact ⟨_, _, rfl⟩
theorem own_stored {w W : World} {B e n : Nat} {v : Value} {l : List Value} {b : Nat} {vs : List Value} (h : w.ownsRow B e 1 v n l) (hs : Stored w b vs W) (hne : Apart v.ownBlock (some b)) : W.ownsRow B e 1 v n l := by
  obtain ⟨h1, h2 | ⟨g, cap, cur, rfl, hg, h4, h5⟩⟩ := h
  · exact ⟨h1, Or.inl h2⟩
  · exact ⟨h1, Or.inr ⟨g, cap, cur, rfl, hg, by rw [hs.block g (fun e => hne g rfl (by rw [e]))]; exact h4, h5⟩⟩
theorem step_append_atd {P : Program} {w : World} {ops : Array Oper} {o : Oper} {a : Act} {K : Act → World → Prop} {Q : Exit → Act → World → Prop} {E : Prop} (d : Nat) (hd : o.dst = some d) (hgd : o.guard = none) (s x : Operand) (t : TypeId)
    (ho : o.op = .call { callee := .builtin .append, args := #[s, x], argTypes := #[t, t] })
    (base : Nat) (e : TypeId) (i : TypeInfo) (z : Value) (bytes : Nat) (k : IntKind) (ht : P.underlying t = some (.slice e)) (hi : P.info? e = some i) (hz : i.zero = some z)
    (hsize : i.size = 1) (hby : i.bytes = bytes) (hzs : z.cells.size = 1)
    (v : Value) (ys xs : List Int) (v2 : Value) (hs : a.eval s = v) (hx : a.eval x = v2) (hown : w.ownsRow base e 1 v ys.length (ys.map (Value.int k))) (hin : IsL w k v2 xs)
    (h63 : ys.length + xs.length ≤ maxLen) (hbytes : (ys.length + xs.length) * bytes ≤ 140737488355328) (hbase : base ≤ w.heap.size)
    (h : ∀ v' w', w'.ownsRow base e 1 v' (ys ++ xs).length ((ys ++ xs).map (Value.int k)) → w.grownBy w' v.ownBlock → (v'.ownBlock = v.ownBlock ∨ v'.ownBlock = some w.heap.size) → K (a.put (some d) v') w') : if Region.wanted o (yielded ops a.tmps) = true then Oper.wp P o a w K Q else E :=
  step_append_at hgd s x t ho base e i z bytes k ht hi hz hsize hby hzs v ys xs v2 hs hx hown hin h63 hbytes hbase fun v' w' h1 h2 h3 => by rw [hd]; exact h v' w' h1 h2 h3
theorem own_some {w : World} {B e : Nat} {a : Option Addr} {c n : Nat} {l : List Value} (h : w.ownsRow B e 1 (.slice a n c) n l) (hp : 0 < n) : ∃ g, a = some ⟨g, 0, none⟩ := by
  rcases h.2 with ⟨_, h0⟩ | ⟨g, cap, cur, e1, _⟩
  · omega
  · injection e1 with e2
    exact ⟨g, e2⟩
theorem own_setI {w : World} {B e g c n : Nat} {ys : List Int} (h : w.ownsRow B e 1 (.slice (some ⟨g, 0, none⟩) n c) n (ys.map (Value.int .u8))) (k : Nat) (y : Int) :
    (w.setCell ⟨g, k, none⟩ (.int .u8 y)).ownsRow B e 1 (.slice (some ⟨g, 0, none⟩) n c) n ((ys.set k y).map (Value.int .u8)) ∧ w.grownBy (w.setCell ⟨g, k, none⟩ (.int .u8 y)) (some g) := by
  rw [List.map_set]
  exact h.stored k _
theorem starts : ∃ F : W8, (∀ W, LaidS W → Calls Tryd.prog 23 #[] W fun e w' => e = .returned (.agg (hashV F (.slice none 0 0) 0).toArray) ∧ Below W.heap.size W w') ∧
    (∀ W, Calls Tryd.prog 24 #[] W fun e w' => e = .returned (.agg (hashV F (.slice none 0 0) 0).toArray) ∧ Below W.heap.size W w') := ⟨first, start_any, rstart_any⟩
set_option maxRecDepth 100000 in
set_option maxHeartbeats 800000 in
theorem writes5_long {T : W8} {n : Int} {a0 a1 : Option Addr} {c0 c1 : Nat} {rs xs : List Int} (w : World) (h : 3000 < xs.length ∨ 200 < rs.length) (m0 : rs.length ≤ 9223372036854775807) (m1 : xs.length ≤ 9223372036854775807) :
    Calls Tryd.prog 5 #[.agg (hashV T (.slice a0 rs.length c0) n).toArray, .slice a1 xs.length c1] w fun e w' => e = .returned (.bool true) ∧ Below w.heap.size w w' := by
  have q : (decide (3000 < (xs.length : Int)) || decide (200 < (rs.length : Int))) = true := by
    rcases h with h | h
    · simp; omega
    · simp; omega
  obtain ⟨V, hV⟩ : ∃ V, V = hashV T (.slice a0 rs.length c0) n := ⟨_, rfl⟩
  rw [← hV]
  have HV := Lib.hid hV
  clear hV h
  go_enter Tryd.func5, Tryd.ntmps5
  go_upto_region 0 with fail
  go_cut [2, 4] (fun p q wx => p = .pointer (some ⟨w.heap.size, 0, none⟩) ∧ q = .bool false ∧ Box wx w.heap.size (hashV T (.slice a0 rs.length c0) n) ∧ Below w.heap.size w wx)
  case first =>
    go_wp2_with fail
    go_meet
    exact ⟨rfl, rfl, Box.newc (by rw [HV.out]) rfl, by go_grown⟩
  case rest =>
    obtain ⟨rfl, rfl, hx1, hB1⟩ := hcut
    obtain ⟨w1, rfl⟩ : ∃ u : World, u = wc := ⟨_, rfl⟩
    have c8 : w1.cell? ⟨w.heap.size, 8, none⟩ = some (.slice a0 rs.length c0) := hx1.c 8 _ rfl
    go_wp2_with fail
    all_goals go_returns
    all_goals exact ⟨rfl, hB1⟩
set_option maxRecDepth 100000 in
set_option maxHeartbeats 6400000 in
theorem writes5_main {T Tw : W8} {n m c e0 : Int} {a0 a1 : Option Addr} {c0 c1 : Nat} {rs xs zs D : List Int} (w : World) (q0 : xs.length ≤ 3000) (q1 : rs.length ≤ 200) (hn : i64n n) (i0 : Hid (IsL w .u8 (.slice a0 rs.length c0) rs)) (bO : Hid (bytesL rs))
    (i1 : Hid (IsL w .u8 (.slice a1 xs.length c1) xs)) (bX : Hid (bytesL xs)) (hL : Hid (LaidS w)) (ho : Hid (writeOut T rs xs n = (Tw, zs, m, c))) (hf : Hid (finishOut T rs n = (D, e0))) :
    Calls Tryd.prog 5 #[.agg (hashV T (.slice a0 rs.length c0) n).toArray, .slice a1 xs.length c1] w fun e w' => e = .returned (.bool true) ∧ Below w.heap.size w w' := by
  have hDl : D.length = 32 := by have := finishOut_len T rs n; rw [hf.out] at this; exact this
  have I32 := Lib.hid (show (Tryd.prog.info? 24).map (·.size) = some (D.map (Value.int .u8)).length by rw [List.length_map, hDl]; exact size32)
  have HLL := Lib.hid (show zero32.length = (D.map (Value.int .u8)).length by rw [List.length_map, hDl]; rfl)
  have hEd := Lib.hid (eq_dig D hDl)
  have m0 := i0.out.room
  have m1 := m0.2.1
  have m2 := m0.2.2
  have m3 := i1.out.room
  have m4 := m3.2.1
  have m5 := m3.2.2
  obtain ⟨ti, hin, hz0, hz1, hz2⟩ := info8
  obtain ⟨F, hs1, hs2⟩ := starts
  obtain ⟨V, hV⟩ : ∃ V, V = hashV T (.slice a0 rs.length c0) n := ⟨_, rfl⟩
  rw [← hV]
  have HV := Lib.hid hV
  clear hV hDl m0 m3
  go_enter Tryd.func5, Tryd.ntmps5
  go_upto_region 0 with fail
  go_cut [2, 4] (fun p q wx => p = .pointer (some ⟨w.heap.size, 0, none⟩) ∧ q = .bool false ∧ Box wx w.heap.size (hashV T (.slice a0 rs.length c0) n) ∧ Below w.heap.size w wx)
  case first =>
    go_wp2_with fail
    go_meet
    exact ⟨rfl, rfl, Box.newc (by rw [HV.out]) rfl, by go_grown⟩
  case rest =>
    obtain ⟨rfl, rfl, hx1, hB1⟩ := hcut
    obtain ⟨w1, rfl⟩ : ∃ u : World, u = wc := ⟨_, rfl⟩
    have c8 : w1.cell? ⟨w.heap.size, 8, none⟩ = some (.slice a0 rs.length c0) := hx1.c 8 _ rfl
    have hz1' := hx1.lt
    have HX1 := Lib.hid hx1
    have HB1 := Lib.hid hB1
    have I0 := Lib.hid (IsL.below i0.out hB1)
    have I1 := Lib.hid (IsL.below i1.out hB1)
    go_upto_region 3 with fail
    clear c8 hx1 hB1
    go_cut [5, 6] (fun p q wx => ∃ (b5 : Nat) (sO sB : Option Addr) (cO cB : Nat), p = .pointer (some ⟨b5, 0, none⟩) ∧ q = .slice sB xs.length cB ∧ Box wx b5 (hashV T (.slice sO rs.length cO) n) ∧ wx.ownsRow 0 5 1 (.slice sO rs.length cO) rs.length (rs.map (Value.int .u8)) ∧ wx.ownsRow 0 5 1 (.slice sB xs.length cB) xs.length (xs.map (Value.int .u8)) ∧
      (∀ g, (Value.slice sO rs.length cO).ownBlock = some g → w1.heap.size ≤ g) ∧ (∀ g, (Value.slice sB xs.length cB).ownBlock = some g → w1.heap.size ≤ g) ∧ w1.heap.size ≤ b5 ∧ Apart (Value.slice sO rs.length cO).ownBlock (some b5) ∧ Apart (Value.slice sB xs.length cB).ownBlock (some b5) ∧ Apart (Value.slice sO rs.length cO).ownBlock (Value.slice sB xs.length cB).ownBlock ∧ Below w1.heap.size w1 wx)
    case first =>
      refine wp_region_held_drew (S := fun w' => Box w' w.heap.size (hashV T (.slice a0 rs.length c0) n)) (by kernel_rfl) (Box.drew HX1.out) (fun _ => ?_)
      refine F_drew (F := fun W => wpAnyH _ _ _ _ _ _ _ _ W) ?_
      intro W0 hB0
      have hx0 := Box.below HX1.out hB0
      refine takeH 0 26 (v := ?vw0_1) rfl (by rfl) (by kernel_rfl) (by kernel_rfl) (by kernel_rfl) (fun _ _ _ h => h) (Or.inl ⟨by rfl, ?_⟩) (hx0) ?_
      rotate_left
      · intro wq hSq
        go_simp
        exact rfl
      try simp only [Act.put, List.setIfInBounds_toArray, List.set_cons_zero, List.set_cons_succ]
      refine takeH 3 29 (v := ?vw3_2) rfl (by rfl) (by kernel_rfl) (by kernel_rfl) (by kernel_rfl) (fun _ _ _ h => h) (Or.inl ⟨by rfl, ?_⟩) (hx0) ?_
      rotate_left
      · intro wq hSq
        go_simp
        exact rfl
      try simp only [Act.put, List.setIfInBounds_toArray, List.set_cons_zero, List.set_cons_succ]
      refine takeH 6 32 (v := ?vw6_3) rfl (by rfl) (by kernel_rfl) (by kernel_rfl) (by kernel_rfl) (fun _ _ _ h => h) (Or.inl ⟨by rfl, ?_⟩) (hx0) ?_
      rotate_left
      · intro wq hSq
        go_simp
        exact rfl
      try simp only [Act.put, List.setIfInBounds_toArray, List.set_cons_zero, List.set_cons_succ]
      refine takeH 10 36 (v := ?vw10_4) rfl (by rfl) (by kernel_rfl) (by kernel_rfl) (by kernel_rfl) (fun _ _ _ h => h) (Or.inl ⟨by rfl, ?_⟩) (hx0) ?_
      rotate_left
      · intro wq hSq
        go_simp
        exact rfl
      try simp only [Act.put, List.setIfInBounds_toArray, List.set_cons_zero, List.set_cons_succ]
      refine takeH 1 27 (v := .agg (hv T).toArray) rfl (by rfl) (by kernel_rfl) (by kernel_rfl) (by kernel_rfl) (fun _ _ _ h => h) (yieldsIf_load_mid (by rfl) _ _ rfl _ 0 rfl (hv T) _ (fun wq hq => Box.left (l := hv T) (r := [.slice a0 rs.length c0, .int .i64 n]) hq) Tryd.underlying32 rfl size8) (hx0) ?_
      try simp only [Act.put, List.setIfInBounds_toArray, List.set_cons_zero, List.set_cons_succ]
      refine takeH 4 30 (v := .slice a0 rs.length c0) rfl (by rfl) (by kernel_rfl) (by kernel_rfl) (by kernel_rfl) (fun _ _ _ h => h) (Or.inl ⟨by rfl, ?_⟩) (hx0) ?_
      · intro wq hSq
        have cq := hSq.c 8 _ rfl
        go_simp
      try simp only [Act.put, List.setIfInBounds_toArray, List.set_cons_zero, List.set_cons_succ]
      refine takeH 7 33 (v := .int .i64 n) rfl (by rfl) (by kernel_rfl) (by kernel_rfl) (by kernel_rfl) (fun _ _ _ h => h) (Or.inl ⟨by rfl, ?_⟩) (hx0) ?_
      · intro wq hSq
        have cq := hSq.c 9 _ rfl
        go_simp
      try simp only [Act.put, List.setIfInBounds_toArray, List.set_cons_zero, List.set_cons_succ]
      refine wpAnyH_ready (rs := [2, 9, 12]) (by kernel_rfl) (by simp) (AllReadyH.cons rfl (fun K hK => ?_) (AllReadyH.cons rfl (fun K hK => ?_) (AllReadyH.cons rfl (fun K hK => ?_) AllReadyH.nil)))
      · skip
        go_simp
        refine hK.out _ _ (Box.alloc hx0 _) (fun _ => ?_); clear hK K
        refine F_own0 (F := fun W => wpAnyH _ _ _ _ _ _ _ _ W) ?_
        intro W5 nw5 hb5
        have lo5 : ∀ g, (some W0.heap.size : Option Nat) = some g → w1.heap.size ≤ g := fun g hg => by cases hg; exact Below.size hB0
        have hB5 := below_thru hB0 hb5
        have hx5 := Box.below HX1.out hB5
        refine wpAnyH_ready (rs := [5, 9, 12]) (by kernel_rfl) (by simp) (AllReadyH.cons rfl (fun K hK => ?_) (AllReadyH.cons rfl (fun K hK => ?_) (AllReadyH.cons rfl (fun K hK => ?_) AllReadyH.nil)))
        · skip
          refine step_append_atd 31 rfl rfl _ _ 28 (by rfl) 0 5 ti (.int .u8 0) 1 .u8 Tryd.underlying28 hin hz0 hz1 hz2 rfl _ [] (rs) _ (by rfl) (by rfl) nw5 (IsL.below I0.out hB5) (by unfold maxLen; simp <;> omega) (by simp <;> omega) (Nat.zero_le _) ?_
          intro v6 W6 nq6 hg6 hat6
          have nw6 : W6.ownsRow 0 5 1 v6 (rs).length ((rs).map (Value.int .u8)) := nq6
          clear nq6
          obtain ⟨s6, c6, rfl⟩ : ∃ a c, v6 = .slice a (rs).length c := own_len nw6
          have lo6 : ∀ g, (Value.slice s6 (rs).length c6).ownBlock = some g → w1.heap.size ≤ g := lo_app hat6 lo5 (Below.size hB5)
          have hB6 : Below w1.heap.size w1 W6 := Below.grown hB5 hg6 (Below.size hB5) lo5
          have hx6 := Box.below HX1.out hB6
          refine hK.out _ _ (hx6) (fun _ => ?_); clear hK K
          try simp only [Act.put, List.setIfInBounds_toArray, List.set_cons_zero, List.set_cons_succ]
          refine takeH 8 34 (v := .agg (hashV T (.slice s6 rs.length c6) n).toArray) rfl (by rfl) (by kernel_rfl) (by kernel_rfl) (by kernel_rfl) (fun _ _ _ h => h) (Or.inl ⟨by rfl, ?_⟩) (hx6) ?_
          · intro wq hSq
            exact exec_build3 _ _ _ rfl T _ _ _ n rfl rfl rfl wq
          try simp only [Act.put, List.setIfInBounds_toArray, List.set_cons_zero, List.set_cons_succ]
          refine wpAnyH_ready (rs := [9, 12]) (by kernel_rfl) (by simp) (AllReadyH.cons rfl (fun K hK => ?_) (AllReadyH.cons rfl (fun K hK => ?_) AllReadyH.nil))
          · skip
            go_simp
            refine hK.out _ _ (Box.alloc hx6 _) (fun _ => ?_); clear hK K
            refine F_own0 (F := fun W => wpAnyH _ _ _ _ _ _ _ _ W) ?_
            intro W7 nw7 hb7
            have lo7 : ∀ g, (some W6.heap.size : Option Nat) = some g → w1.heap.size ≤ g := fun g hg => by cases hg; exact Below.size hB6
            have ap7o1 : Apart ((Value.slice s6 (rs).length c6).ownBlock) (some W6.heap.size) := Apart.new (fun g hg => (World.ownsRow.lt nw6 g hg).2)
            have hB7 := below_thru hB6 hb7
            have hx7 := Box.below HX1.out hB7
            have o1_7 := own_below nw6 hb7
            refine wpAnyH_ready (rs := [11, 12]) (by kernel_rfl) (by simp) (AllReadyH.cons rfl (fun K hK => ?_) (AllReadyH.cons rfl (fun K hK => ?_) AllReadyH.nil))
            · skip
              refine step_append_atd 37 rfl rfl _ _ 28 (by rfl) 0 5 ti (.int .u8 0) 1 .u8 Tryd.underlying28 hin hz0 hz1 hz2 rfl _ [] (xs) _ (by rfl) (by rfl) nw7 (IsL.below I1.out hB7) (by unfold maxLen; simp <;> omega) (by simp <;> omega) (Nat.zero_le _) ?_
              intro v8 W8 nq8 hg8 hat8
              have nw8 : W8.ownsRow 0 5 1 v8 (xs).length ((xs).map (Value.int .u8)) := nq8
              clear nq8
              obtain ⟨s8, c8, rfl⟩ : ∃ a c, v8 = .slice a (xs).length c := own_len nw8
              have lo8 : ∀ g, (Value.slice s8 (xs).length c8).ownBlock = some g → w1.heap.size ≤ g := lo_app hat8 lo7 (Below.size hB7)
              have hB8 : Below w1.heap.size w1 W8 := Below.grown hB7 hg8 (Below.size hB7) lo7
              have hx8 := Box.below HX1.out hB8
              have o1_8 := World.ownsRow.kept o1_7 hg8 (Apart.ne ap7o1)
              have ap8o1 : Apart (Value.slice s8 (xs).length c8).ownBlock ((Value.slice s6 (rs).length c6).ownBlock) := Apart.app hat8 (Apart.symm ap7o1) (fun g hg => (World.ownsRow.lt o1_7 g hg).2)
              refine hK.out _ _ (hx8) (fun _ => ?_); clear hK K
              try simp only [Act.put, List.setIfInBounds_toArray, List.set_cons_zero, List.set_cons_succ]
              refine wpAnyH_ready (rs := [12]) (by kernel_rfl) (by simp) (AllReadyH.cons rfl (fun K hK => ?_) AllReadyH.nil)
              go_simp
              refine hK.out _ _ (Box.alloc hx8 _) (fun _ => ?_); clear hK K
              refine F_alloc (F := fun W => wpAnyH _ _ _ _ _ _ _ _ W) (zero10) rfl ?_
              intro W9 nw9 hb9
              have lo9 : ∀ g, (some W8.heap.size : Option Nat) = some g → w1.heap.size ≤ g := fun g hg => by cases hg; exact Below.size hB8
              have ap9o1 : Apart ((Value.slice s6 (rs).length c6).ownBlock) (some W8.heap.size) := Apart.new (fun g hg => (World.ownsRow.lt o1_8 g hg).2)
              have ap9o2 : Apart ((Value.slice s8 (xs).length c8).ownBlock) (some W8.heap.size) := Apart.new (fun g hg => (World.ownsRow.lt nw8 g hg).2)
              have hB9 := below_thru hB8 hb9
              have hx9 := Box.below HX1.out hB9
              have o1_9 := own_below o1_8 hb9
              have o2_9 := own_below nw8 hb9
              refine wpAnyH_ready (rs := [13]) (by kernel_rfl) (by simp) (AllReadyH.cons rfl (fun K hK => ?_) AllReadyH.nil)
              refine step_store_box0 (cs := hashV T (.slice s6 rs.length c6) n) rfl rfl _ _ _ rfl nw9 rfl rfl size10 rfl (hash_one _ _ _ _ _) ?_
              intro W10 hW10
              have hB10 : Below w1.heap.size w1 W10 := hW10.below _ _ (lo9 _ rfl) hB9
              have hx10 := Box.below HX1.out hB10
              have o1_10 := own_stored o1_9 hW10 ap9o1
              have o2_10 := own_stored o2_9 hW10 ap9o2
              refine hK.out _ _ (hx10) (fun _ => ?_); clear hK K
              refine takeH 14 6 (v := ?vw14_11) rfl (by rfl) (by kernel_rfl) (by kernel_rfl) (by kernel_rfl) (fun _ _ _ h => h) (Or.inl ⟨by rfl, ?_⟩) (hx10) ?_
              rotate_left
              · intro wq hSq
                go_simp
                exact rfl
              try simp only [Act.put, List.setIfInBounds_toArray, List.set_cons_zero, List.set_cons_succ]
              refine wpAnyH_done (by kernel_rfl) ?_ _
              go_wp2_with fail
              go_meet
              exact ⟨_, s6, s8, c6, c8, rfl, rfl, hW10.box, o1_10, o2_10, lo6, lo8, lo9 _ rfl, ap9o1, ap9o2, (Apart.symm ap8o1), hB10⟩
            · skip
              go_simp
              refine hK.out _ _ (Box.alloc hx7 _) (fun _ => ?_); clear hK K
              refine F_alloc (F := fun W => wpAnyH _ _ _ _ _ _ _ _ W) (zero10) rfl ?_
              intro W12 nw12 hb12
              have lo12 : ∀ g, (some W7.heap.size : Option Nat) = some g → w1.heap.size ≤ g := fun g hg => by cases hg; exact Below.size hB7
              have ap12o1 : Apart ((Value.slice s6 (rs).length c6).ownBlock) (some W7.heap.size) := Apart.new (fun g hg => (World.ownsRow.lt o1_7 g hg).2)
              have ap12o2 : Apart (some W6.heap.size) (some W7.heap.size) := Apart.new (fun g hg => (World.ownsRow.lt nw7 g hg).2)
              have hB12 := below_thru hB7 hb12
              have hx12 := Box.below HX1.out hB12
              have o1_12 := own_below o1_7 hb12
              have o2_12 := own_below nw7 hb12
              refine wpAnyH_ready (rs := [11]) (by kernel_rfl) (by simp) (AllReadyH.cons rfl (fun K hK => ?_) AllReadyH.nil)
              refine step_append_atd 37 rfl rfl _ _ 28 (by rfl) 0 5 ti (.int .u8 0) 1 .u8 Tryd.underlying28 hin hz0 hz1 hz2 rfl _ [] (xs) _ (by rfl) (by rfl) o2_12 (IsL.below I1.out hB12) (by unfold maxLen; simp <;> omega) (by simp <;> omega) (Nat.zero_le _) ?_
              intro v13 W13 nq13 hg13 hat13
              have nw13 : W13.ownsRow 0 5 1 v13 (xs).length ((xs).map (Value.int .u8)) := nq13
              clear nq13
              obtain ⟨s13, c13, rfl⟩ : ∃ a c, v13 = .slice a (xs).length c := own_len nw13
              have lo13 : ∀ g, (Value.slice s13 (xs).length c13).ownBlock = some g → w1.heap.size ≤ g := lo_app hat13 lo7 (Below.size hB12)
              have hB13 : Below w1.heap.size w1 W13 := Below.grown hB12 hg13 (Below.size hB12) lo7
              have hx13 := Box.below HX1.out hB13
              have o1_13 := World.ownsRow.kept o1_12 hg13 (Apart.ne ap7o1)
              have ap13o1 : Apart (Value.slice s13 (xs).length c13).ownBlock ((Value.slice s6 (rs).length c6).ownBlock) := Apart.app hat13 (Apart.symm ap7o1) (fun g hg => (World.ownsRow.lt o1_12 g hg).2)
              have bx_13 := Box.grown nw12 hg13 ap12o2
              have ap13bx : Apart (Value.slice s13 (xs).length c13).ownBlock (some W7.heap.size) := Apart.app hat13 ap12o2 (Box.lts nw12)
              refine hK.out _ _ (hx13) (fun _ => ?_); clear hK K
              try simp only [Act.put, List.setIfInBounds_toArray, List.set_cons_zero, List.set_cons_succ]
              refine wpAnyH_ready (rs := [13]) (by kernel_rfl) (by simp) (AllReadyH.cons rfl (fun K hK => ?_) AllReadyH.nil)
              refine step_store_box0 (cs := hashV T (.slice s6 rs.length c6) n) rfl rfl _ _ _ rfl bx_13 rfl rfl size10 rfl (hash_one _ _ _ _ _) ?_
              intro W14 hW14
              have hB14 : Below w1.heap.size w1 W14 := hW14.below _ _ (lo12 _ rfl) hB13
              have hx14 := Box.below HX1.out hB14
              have o1_14 := own_stored o1_13 hW14 ap12o1
              have o2_14 := own_stored nw13 hW14 ap13bx
              refine hK.out _ _ (hx14) (fun _ => ?_); clear hK K
              refine takeH 14 6 (v := ?vw14_15) rfl (by rfl) (by kernel_rfl) (by kernel_rfl) (by kernel_rfl) (fun _ _ _ h => h) (Or.inl ⟨by rfl, ?_⟩) (hx14) ?_
              rotate_left
              · intro wq hSq
                go_simp
                exact rfl
              try simp only [Act.put, List.setIfInBounds_toArray, List.set_cons_zero, List.set_cons_succ]
              refine wpAnyH_done (by kernel_rfl) ?_ _
              go_wp2_with fail
              go_meet
              exact ⟨_, s6, s13, c6, c13, rfl, rfl, hW14.box, o1_14, o2_14, lo6, lo13, lo12 _ rfl, ap12o1, ap13bx, (Apart.symm ap13o1), hB14⟩
          · skip
            go_simp
            refine hK.out _ _ (Box.alloc hx6 _) (fun _ => ?_); clear hK K
            refine F_alloc (F := fun W => wpAnyH _ _ _ _ _ _ _ _ W) (zero10) rfl ?_
            intro W16 nw16 hb16
            have lo16 : ∀ g, (some W6.heap.size : Option Nat) = some g → w1.heap.size ≤ g := fun g hg => by cases hg; exact Below.size hB6
            have ap16o1 : Apart ((Value.slice s6 (rs).length c6).ownBlock) (some W6.heap.size) := Apart.new (fun g hg => (World.ownsRow.lt nw6 g hg).2)
            have hB16 := below_thru hB6 hb16
            have hx16 := Box.below HX1.out hB16
            have o1_16 := own_below nw6 hb16
            refine wpAnyH_ready (rs := [9]) (by kernel_rfl) (by simp) (AllReadyH.cons rfl (fun K hK => ?_) AllReadyH.nil)
            go_simp
            refine hK.out _ _ (Box.alloc hx16 _) (fun _ => ?_); clear hK K
            refine F_own0 (F := fun W => wpAnyH _ _ _ _ _ _ _ _ W) ?_
            intro W17 nw17 hb17
            have lo17 : ∀ g, (some W16.heap.size : Option Nat) = some g → w1.heap.size ≤ g := fun g hg => by cases hg; exact Below.size hB16
            have ap17o1 : Apart ((Value.slice s6 (rs).length c6).ownBlock) (some W16.heap.size) := Apart.new (fun g hg => (World.ownsRow.lt o1_16 g hg).2)
            have ap17bx : Apart (some W6.heap.size) (some W16.heap.size) := Apart.new (Box.lts nw16)
            have hB17 := below_thru hB16 hb17
            have hx17 := Box.below HX1.out hB17
            have o1_17 := own_below o1_16 hb17
            have bx_17 := Box.below nw16 hb17
            refine wpAnyH_ready (rs := [11]) (by kernel_rfl) (by simp) (AllReadyH.cons rfl (fun K hK => ?_) AllReadyH.nil)
            refine step_append_atd 37 rfl rfl _ _ 28 (by rfl) 0 5 ti (.int .u8 0) 1 .u8 Tryd.underlying28 hin hz0 hz1 hz2 rfl _ [] (xs) _ (by rfl) (by rfl) nw17 (IsL.below I1.out hB17) (by unfold maxLen; simp <;> omega) (by simp <;> omega) (Nat.zero_le _) ?_
            intro v18 W18 nq18 hg18 hat18
            have nw18 : W18.ownsRow 0 5 1 v18 (xs).length ((xs).map (Value.int .u8)) := nq18
            clear nq18
            obtain ⟨s18, c18, rfl⟩ : ∃ a c, v18 = .slice a (xs).length c := own_len nw18
            have lo18 : ∀ g, (Value.slice s18 (xs).length c18).ownBlock = some g → w1.heap.size ≤ g := lo_app hat18 lo17 (Below.size hB17)
            have hB18 : Below w1.heap.size w1 W18 := Below.grown hB17 hg18 (Below.size hB17) lo17
            have hx18 := Box.below HX1.out hB18
            have o1_18 := World.ownsRow.kept o1_17 hg18 (Apart.ne ap17o1)
            have ap18o1 : Apart (Value.slice s18 (xs).length c18).ownBlock ((Value.slice s6 (rs).length c6).ownBlock) := Apart.app hat18 (Apart.symm ap17o1) (fun g hg => (World.ownsRow.lt o1_17 g hg).2)
            have bx_18 := Box.grown bx_17 hg18 (Apart.symm ap17bx)
            have ap18bx : Apart (Value.slice s18 (xs).length c18).ownBlock (some W6.heap.size) := Apart.app hat18 (Apart.symm ap17bx) (Box.lts bx_17)
            refine hK.out _ _ (hx18) (fun _ => ?_); clear hK K
            try simp only [Act.put, List.setIfInBounds_toArray, List.set_cons_zero, List.set_cons_succ]
            refine wpAnyH_ready (rs := [13]) (by kernel_rfl) (by simp) (AllReadyH.cons rfl (fun K hK => ?_) AllReadyH.nil)
            refine step_store_box0 (cs := hashV T (.slice s6 rs.length c6) n) rfl rfl _ _ _ rfl bx_18 rfl rfl size10 rfl (hash_one _ _ _ _ _) ?_
            intro W19 hW19
            have hB19 : Below w1.heap.size w1 W19 := hW19.below _ _ (lo16 _ rfl) hB18
            have hx19 := Box.below HX1.out hB19
            have o1_19 := own_stored o1_18 hW19 ap16o1
            have o2_19 := own_stored nw18 hW19 ap18bx
            refine hK.out _ _ (hx19) (fun _ => ?_); clear hK K
            refine takeH 14 6 (v := ?vw14_20) rfl (by rfl) (by kernel_rfl) (by kernel_rfl) (by kernel_rfl) (fun _ _ _ h => h) (Or.inl ⟨by rfl, ?_⟩) (hx19) ?_
            rotate_left
            · intro wq hSq
              go_simp
              exact rfl
            try simp only [Act.put, List.setIfInBounds_toArray, List.set_cons_zero, List.set_cons_succ]
            refine wpAnyH_done (by kernel_rfl) ?_ _
            go_wp2_with fail
            go_meet
            exact ⟨_, s6, s18, c6, c18, rfl, rfl, hW19.box, o1_19, o2_19, lo6, lo18, lo16 _ rfl, ap16o1, ap18bx, (Apart.symm ap18o1), hB19⟩
        · skip
          go_simp
          refine hK.out _ _ (Box.alloc hx5 _) (fun _ => ?_); clear hK K
          refine F_own0 (F := fun W => wpAnyH _ _ _ _ _ _ _ _ W) ?_
          intro W21 nw21 hb21
          have lo21 : ∀ g, (some W5.heap.size : Option Nat) = some g → w1.heap.size ≤ g := fun g hg => by cases hg; exact Below.size hB5
          have ap21o1 : Apart (some W0.heap.size) (some W5.heap.size) := Apart.new (fun g hg => (World.ownsRow.lt nw5 g hg).2)
          have hB21 := below_thru hB5 hb21
          have hx21 := Box.below HX1.out hB21
          have o1_21 := own_below nw5 hb21
          refine wpAnyH_ready (rs := [5, 12]) (by kernel_rfl) (by simp) (AllReadyH.cons rfl (fun K hK => ?_) (AllReadyH.cons rfl (fun K hK => ?_) AllReadyH.nil))
          · skip
            refine step_append_atd 31 rfl rfl _ _ 28 (by rfl) 0 5 ti (.int .u8 0) 1 .u8 Tryd.underlying28 hin hz0 hz1 hz2 rfl _ [] (rs) _ (by rfl) (by rfl) o1_21 (IsL.below I0.out hB21) (by unfold maxLen; simp <;> omega) (by simp <;> omega) (Nat.zero_le _) ?_
            intro v22 W22 nq22 hg22 hat22
            have nw22 : W22.ownsRow 0 5 1 v22 (rs).length ((rs).map (Value.int .u8)) := nq22
            clear nq22
            obtain ⟨s22, c22, rfl⟩ : ∃ a c, v22 = .slice a (rs).length c := own_len nw22
            have lo22 : ∀ g, (Value.slice s22 (rs).length c22).ownBlock = some g → w1.heap.size ≤ g := lo_app hat22 lo5 (Below.size hB21)
            have hB22 : Below w1.heap.size w1 W22 := Below.grown hB21 hg22 (Below.size hB21) lo5
            have hx22 := Box.below HX1.out hB22
            have o2_22 := World.ownsRow.kept nw21 hg22 (Apart.ne (Apart.symm ap21o1))
            have ap22o2 : Apart (Value.slice s22 (rs).length c22).ownBlock (some W5.heap.size) := Apart.app hat22 ap21o1 (fun g hg => (World.ownsRow.lt nw21 g hg).2)
            refine hK.out _ _ (hx22) (fun _ => ?_); clear hK K
            try simp only [Act.put, List.setIfInBounds_toArray, List.set_cons_zero, List.set_cons_succ]
            refine takeH 8 34 (v := .agg (hashV T (.slice s22 rs.length c22) n).toArray) rfl (by rfl) (by kernel_rfl) (by kernel_rfl) (by kernel_rfl) (fun _ _ _ h => h) (Or.inl ⟨by rfl, ?_⟩) (hx22) ?_
            · intro wq hSq
              exact exec_build3 _ _ _ rfl T _ _ _ n rfl rfl rfl wq
            try simp only [Act.put, List.setIfInBounds_toArray, List.set_cons_zero, List.set_cons_succ]
            refine wpAnyH_ready (rs := [11, 12]) (by kernel_rfl) (by simp) (AllReadyH.cons rfl (fun K hK => ?_) (AllReadyH.cons rfl (fun K hK => ?_) AllReadyH.nil))
            · skip
              refine step_append_atd 37 rfl rfl _ _ 28 (by rfl) 0 5 ti (.int .u8 0) 1 .u8 Tryd.underlying28 hin hz0 hz1 hz2 rfl _ [] (xs) _ (by rfl) (by rfl) o2_22 (IsL.below I1.out hB22) (by unfold maxLen; simp <;> omega) (by simp <;> omega) (Nat.zero_le _) ?_
              intro v23 W23 nq23 hg23 hat23
              have nw23 : W23.ownsRow 0 5 1 v23 (xs).length ((xs).map (Value.int .u8)) := nq23
              clear nq23
              obtain ⟨s23, c23, rfl⟩ : ∃ a c, v23 = .slice a (xs).length c := own_len nw23
              have lo23 : ∀ g, (Value.slice s23 (xs).length c23).ownBlock = some g → w1.heap.size ≤ g := lo_app hat23 lo21 (Below.size hB22)
              have hB23 : Below w1.heap.size w1 W23 := Below.grown hB22 hg23 (Below.size hB22) lo21
              have hx23 := Box.below HX1.out hB23
              have o1_23 := World.ownsRow.kept nw22 hg23 (Apart.ne ap22o2)
              have ap23o1 : Apart (Value.slice s23 (xs).length c23).ownBlock ((Value.slice s22 (rs).length c22).ownBlock) := Apart.app hat23 (Apart.symm ap22o2) (fun g hg => (World.ownsRow.lt nw22 g hg).2)
              refine hK.out _ _ (hx23) (fun _ => ?_); clear hK K
              try simp only [Act.put, List.setIfInBounds_toArray, List.set_cons_zero, List.set_cons_succ]
              refine wpAnyH_ready (rs := [12]) (by kernel_rfl) (by simp) (AllReadyH.cons rfl (fun K hK => ?_) AllReadyH.nil)
              go_simp
              refine hK.out _ _ (Box.alloc hx23 _) (fun _ => ?_); clear hK K
              refine F_alloc (F := fun W => wpAnyH _ _ _ _ _ _ _ _ W) (zero10) rfl ?_
              intro W24 nw24 hb24
              have lo24 : ∀ g, (some W23.heap.size : Option Nat) = some g → w1.heap.size ≤ g := fun g hg => by cases hg; exact Below.size hB23
              have ap24o1 : Apart ((Value.slice s22 (rs).length c22).ownBlock) (some W23.heap.size) := Apart.new (fun g hg => (World.ownsRow.lt o1_23 g hg).2)
              have ap24o2 : Apart ((Value.slice s23 (xs).length c23).ownBlock) (some W23.heap.size) := Apart.new (fun g hg => (World.ownsRow.lt nw23 g hg).2)
              have hB24 := below_thru hB23 hb24
              have hx24 := Box.below HX1.out hB24
              have o1_24 := own_below o1_23 hb24
              have o2_24 := own_below nw23 hb24
              refine wpAnyH_ready (rs := [13]) (by kernel_rfl) (by simp) (AllReadyH.cons rfl (fun K hK => ?_) AllReadyH.nil)
              refine step_store_box0 (cs := hashV T (.slice s22 rs.length c22) n) rfl rfl _ _ _ rfl nw24 rfl rfl size10 rfl (hash_one _ _ _ _ _) ?_
              intro W25 hW25
              have hB25 : Below w1.heap.size w1 W25 := hW25.below _ _ (lo24 _ rfl) hB24
              have hx25 := Box.below HX1.out hB25
              have o1_25 := own_stored o1_24 hW25 ap24o1
              have o2_25 := own_stored o2_24 hW25 ap24o2
              refine hK.out _ _ (hx25) (fun _ => ?_); clear hK K
              refine takeH 14 6 (v := ?vw14_26) rfl (by rfl) (by kernel_rfl) (by kernel_rfl) (by kernel_rfl) (fun _ _ _ h => h) (Or.inl ⟨by rfl, ?_⟩) (hx25) ?_
              rotate_left
              · intro wq hSq
                go_simp
                exact rfl
              try simp only [Act.put, List.setIfInBounds_toArray, List.set_cons_zero, List.set_cons_succ]
              refine wpAnyH_done (by kernel_rfl) ?_ _
              go_wp2_with fail
              go_meet
              exact ⟨_, s22, s23, c22, c23, rfl, rfl, hW25.box, o1_25, o2_25, lo22, lo23, lo24 _ rfl, ap24o1, ap24o2, (Apart.symm ap23o1), hB25⟩
            · skip
              go_simp
              refine hK.out _ _ (Box.alloc hx22 _) (fun _ => ?_); clear hK K
              refine F_alloc (F := fun W => wpAnyH _ _ _ _ _ _ _ _ W) (zero10) rfl ?_
              intro W27 nw27 hb27
              have lo27 : ∀ g, (some W22.heap.size : Option Nat) = some g → w1.heap.size ≤ g := fun g hg => by cases hg; exact Below.size hB22
              have ap27o2 : Apart (some W5.heap.size) (some W22.heap.size) := Apart.new (fun g hg => (World.ownsRow.lt o2_22 g hg).2)
              have ap27o1 : Apart ((Value.slice s22 (rs).length c22).ownBlock) (some W22.heap.size) := Apart.new (fun g hg => (World.ownsRow.lt nw22 g hg).2)
              have hB27 := below_thru hB22 hb27
              have hx27 := Box.below HX1.out hB27
              have o2_27 := own_below o2_22 hb27
              have o1_27 := own_below nw22 hb27
              refine wpAnyH_ready (rs := [11]) (by kernel_rfl) (by simp) (AllReadyH.cons rfl (fun K hK => ?_) AllReadyH.nil)
              refine step_append_atd 37 rfl rfl _ _ 28 (by rfl) 0 5 ti (.int .u8 0) 1 .u8 Tryd.underlying28 hin hz0 hz1 hz2 rfl _ [] (xs) _ (by rfl) (by rfl) o2_27 (IsL.below I1.out hB27) (by unfold maxLen; simp <;> omega) (by simp <;> omega) (Nat.zero_le _) ?_
              intro v28 W28 nq28 hg28 hat28
              have nw28 : W28.ownsRow 0 5 1 v28 (xs).length ((xs).map (Value.int .u8)) := nq28
              clear nq28
              obtain ⟨s28, c28, rfl⟩ : ∃ a c, v28 = .slice a (xs).length c := own_len nw28
              have lo28 : ∀ g, (Value.slice s28 (xs).length c28).ownBlock = some g → w1.heap.size ≤ g := lo_app hat28 lo21 (Below.size hB27)
              have hB28 : Below w1.heap.size w1 W28 := Below.grown hB27 hg28 (Below.size hB27) lo21
              have hx28 := Box.below HX1.out hB28
              have o1_28 := World.ownsRow.kept o1_27 hg28 (Apart.ne ap22o2)
              have ap28o1 : Apart (Value.slice s28 (xs).length c28).ownBlock ((Value.slice s22 (rs).length c22).ownBlock) := Apart.app hat28 (Apart.symm ap22o2) (fun g hg => (World.ownsRow.lt o1_27 g hg).2)
              have bx_28 := Box.grown nw27 hg28 ap27o2
              have ap28bx : Apart (Value.slice s28 (xs).length c28).ownBlock (some W22.heap.size) := Apart.app hat28 ap27o2 (Box.lts nw27)
              refine hK.out _ _ (hx28) (fun _ => ?_); clear hK K
              try simp only [Act.put, List.setIfInBounds_toArray, List.set_cons_zero, List.set_cons_succ]
              refine wpAnyH_ready (rs := [13]) (by kernel_rfl) (by simp) (AllReadyH.cons rfl (fun K hK => ?_) AllReadyH.nil)
              refine step_store_box0 (cs := hashV T (.slice s22 rs.length c22) n) rfl rfl _ _ _ rfl bx_28 rfl rfl size10 rfl (hash_one _ _ _ _ _) ?_
              intro W29 hW29
              have hB29 : Below w1.heap.size w1 W29 := hW29.below _ _ (lo27 _ rfl) hB28
              have hx29 := Box.below HX1.out hB29
              have o1_29 := own_stored o1_28 hW29 ap27o1
              have o2_29 := own_stored nw28 hW29 ap28bx
              refine hK.out _ _ (hx29) (fun _ => ?_); clear hK K
              refine takeH 14 6 (v := ?vw14_30) rfl (by rfl) (by kernel_rfl) (by kernel_rfl) (by kernel_rfl) (fun _ _ _ h => h) (Or.inl ⟨by rfl, ?_⟩) (hx29) ?_
              rotate_left
              · intro wq hSq
                go_simp
                exact rfl
              try simp only [Act.put, List.setIfInBounds_toArray, List.set_cons_zero, List.set_cons_succ]
              refine wpAnyH_done (by kernel_rfl) ?_ _
              go_wp2_with fail
              go_meet
              exact ⟨_, s22, s28, c22, c28, rfl, rfl, hW29.box, o1_29, o2_29, lo22, lo28, lo27 _ rfl, ap27o1, ap28bx, (Apart.symm ap28o1), hB29⟩
          · skip
            go_simp
            refine hK.out _ _ (Box.alloc hx21 _) (fun _ => ?_); clear hK K
            refine F_alloc (F := fun W => wpAnyH _ _ _ _ _ _ _ _ W) (zero10) rfl ?_
            intro W31 nw31 hb31
            have lo31 : ∀ g, (some W21.heap.size : Option Nat) = some g → w1.heap.size ≤ g := fun g hg => by cases hg; exact Below.size hB21
            have ap31o1 : Apart (some W0.heap.size) (some W21.heap.size) := Apart.new (fun g hg => (World.ownsRow.lt o1_21 g hg).2)
            have ap31o2 : Apart (some W5.heap.size) (some W21.heap.size) := Apart.new (fun g hg => (World.ownsRow.lt nw21 g hg).2)
            have hB31 := below_thru hB21 hb31
            have hx31 := Box.below HX1.out hB31
            have o1_31 := own_below o1_21 hb31
            have o2_31 := own_below nw21 hb31
            refine wpAnyH_ready (rs := [5]) (by kernel_rfl) (by simp) (AllReadyH.cons rfl (fun K hK => ?_) AllReadyH.nil)
            refine step_append_atd 31 rfl rfl _ _ 28 (by rfl) 0 5 ti (.int .u8 0) 1 .u8 Tryd.underlying28 hin hz0 hz1 hz2 rfl _ [] (rs) _ (by rfl) (by rfl) o1_31 (IsL.below I0.out hB31) (by unfold maxLen; simp <;> omega) (by simp <;> omega) (Nat.zero_le _) ?_
            intro v32 W32 nq32 hg32 hat32
            have nw32 : W32.ownsRow 0 5 1 v32 (rs).length ((rs).map (Value.int .u8)) := nq32
            clear nq32
            obtain ⟨s32, c32, rfl⟩ : ∃ a c, v32 = .slice a (rs).length c := own_len nw32
            have lo32 : ∀ g, (Value.slice s32 (rs).length c32).ownBlock = some g → w1.heap.size ≤ g := lo_app hat32 lo5 (Below.size hB31)
            have hB32 : Below w1.heap.size w1 W32 := Below.grown hB31 hg32 (Below.size hB31) lo5
            have hx32 := Box.below HX1.out hB32
            have o2_32 := World.ownsRow.kept o2_31 hg32 (Apart.ne (Apart.symm ap21o1))
            have ap32o2 : Apart (Value.slice s32 (rs).length c32).ownBlock (some W5.heap.size) := Apart.app hat32 ap21o1 (fun g hg => (World.ownsRow.lt o2_31 g hg).2)
            have bx_32 := Box.grown nw31 hg32 ap31o1
            have ap32bx : Apart (Value.slice s32 (rs).length c32).ownBlock (some W21.heap.size) := Apart.app hat32 ap31o1 (Box.lts nw31)
            refine hK.out _ _ (hx32) (fun _ => ?_); clear hK K
            try simp only [Act.put, List.setIfInBounds_toArray, List.set_cons_zero, List.set_cons_succ]
            refine takeH 8 34 (v := .agg (hashV T (.slice s32 rs.length c32) n).toArray) rfl (by rfl) (by kernel_rfl) (by kernel_rfl) (by kernel_rfl) (fun _ _ _ h => h) (Or.inl ⟨by rfl, ?_⟩) (hx32) ?_
            · intro wq hSq
              exact exec_build3 _ _ _ rfl T _ _ _ n rfl rfl rfl wq
            try simp only [Act.put, List.setIfInBounds_toArray, List.set_cons_zero, List.set_cons_succ]
            refine wpAnyH_ready (rs := [11]) (by kernel_rfl) (by simp) (AllReadyH.cons rfl (fun K hK => ?_) AllReadyH.nil)
            refine step_append_atd 37 rfl rfl _ _ 28 (by rfl) 0 5 ti (.int .u8 0) 1 .u8 Tryd.underlying28 hin hz0 hz1 hz2 rfl _ [] (xs) _ (by rfl) (by rfl) o2_32 (IsL.below I1.out hB32) (by unfold maxLen; simp <;> omega) (by simp <;> omega) (Nat.zero_le _) ?_
            intro v33 W33 nq33 hg33 hat33
            have nw33 : W33.ownsRow 0 5 1 v33 (xs).length ((xs).map (Value.int .u8)) := nq33
            clear nq33
            obtain ⟨s33, c33, rfl⟩ : ∃ a c, v33 = .slice a (xs).length c := own_len nw33
            have lo33 : ∀ g, (Value.slice s33 (xs).length c33).ownBlock = some g → w1.heap.size ≤ g := lo_app hat33 lo21 (Below.size hB32)
            have hB33 : Below w1.heap.size w1 W33 := Below.grown hB32 hg33 (Below.size hB32) lo21
            have hx33 := Box.below HX1.out hB33
            have bx_33 := Box.grown bx_32 hg33 ap31o2
            have ap33bx : Apart (Value.slice s33 (xs).length c33).ownBlock (some W21.heap.size) := Apart.app hat33 ap31o2 (Box.lts bx_32)
            have o1_33 := World.ownsRow.kept nw32 hg33 (Apart.ne ap32o2)
            have ap33o1 : Apart (Value.slice s33 (xs).length c33).ownBlock ((Value.slice s32 (rs).length c32).ownBlock) := Apart.app hat33 (Apart.symm ap32o2) (fun g hg => (World.ownsRow.lt nw32 g hg).2)
            refine hK.out _ _ (hx33) (fun _ => ?_); clear hK K
            try simp only [Act.put, List.setIfInBounds_toArray, List.set_cons_zero, List.set_cons_succ]
            refine wpAnyH_ready (rs := [13]) (by kernel_rfl) (by simp) (AllReadyH.cons rfl (fun K hK => ?_) AllReadyH.nil)
            refine step_store_box0 (cs := hashV T (.slice s32 rs.length c32) n) rfl rfl _ _ _ rfl bx_33 rfl rfl size10 rfl (hash_one _ _ _ _ _) ?_
            intro W34 hW34
            have hB34 : Below w1.heap.size w1 W34 := hW34.below _ _ (lo31 _ rfl) hB33
            have hx34 := Box.below HX1.out hB34
            have o1_34 := own_stored o1_33 hW34 ap32bx
            have o2_34 := own_stored nw33 hW34 ap33bx
            refine hK.out _ _ (hx34) (fun _ => ?_); clear hK K
            refine takeH 14 6 (v := ?vw14_35) rfl (by rfl) (by kernel_rfl) (by kernel_rfl) (by kernel_rfl) (fun _ _ _ h => h) (Or.inl ⟨by rfl, ?_⟩) (hx34) ?_
            rotate_left
            · intro wq hSq
              go_simp
              exact rfl
            try simp only [Act.put, List.setIfInBounds_toArray, List.set_cons_zero, List.set_cons_succ]
            refine wpAnyH_done (by kernel_rfl) ?_ _
            go_wp2_with fail
            go_meet
            exact ⟨_, s32, s33, c32, c33, rfl, rfl, hW34.box, o1_34, o2_34, lo32, lo33, lo31 _ rfl, ap32bx, ap33bx, (Apart.symm ap33o1), hB34⟩
        · skip
          go_simp
          refine hK.out _ _ (Box.alloc hx5 _) (fun _ => ?_); clear hK K
          refine F_alloc (F := fun W => wpAnyH _ _ _ _ _ _ _ _ W) (zero10) rfl ?_
          intro W36 nw36 hb36
          have lo36 : ∀ g, (some W5.heap.size : Option Nat) = some g → w1.heap.size ≤ g := fun g hg => by cases hg; exact Below.size hB5
          have ap36o1 : Apart (some W0.heap.size) (some W5.heap.size) := Apart.new (fun g hg => (World.ownsRow.lt nw5 g hg).2)
          have hB36 := below_thru hB5 hb36
          have hx36 := Box.below HX1.out hB36
          have o1_36 := own_below nw5 hb36
          refine wpAnyH_ready (rs := [5, 9]) (by kernel_rfl) (by simp) (AllReadyH.cons rfl (fun K hK => ?_) (AllReadyH.cons rfl (fun K hK => ?_) AllReadyH.nil))
          · skip
            refine step_append_atd 31 rfl rfl _ _ 28 (by rfl) 0 5 ti (.int .u8 0) 1 .u8 Tryd.underlying28 hin hz0 hz1 hz2 rfl _ [] (rs) _ (by rfl) (by rfl) o1_36 (IsL.below I0.out hB36) (by unfold maxLen; simp <;> omega) (by simp <;> omega) (Nat.zero_le _) ?_
            intro v37 W37 nq37 hg37 hat37
            have nw37 : W37.ownsRow 0 5 1 v37 (rs).length ((rs).map (Value.int .u8)) := nq37
            clear nq37
            obtain ⟨s37, c37, rfl⟩ : ∃ a c, v37 = .slice a (rs).length c := own_len nw37
            have lo37 : ∀ g, (Value.slice s37 (rs).length c37).ownBlock = some g → w1.heap.size ≤ g := lo_app hat37 lo5 (Below.size hB36)
            have hB37 : Below w1.heap.size w1 W37 := Below.grown hB36 hg37 (Below.size hB36) lo5
            have hx37 := Box.below HX1.out hB37
            have bx_37 := Box.grown nw36 hg37 ap36o1
            have ap37bx : Apart (Value.slice s37 (rs).length c37).ownBlock (some W5.heap.size) := Apart.app hat37 ap36o1 (Box.lts nw36)
            refine hK.out _ _ (hx37) (fun _ => ?_); clear hK K
            try simp only [Act.put, List.setIfInBounds_toArray, List.set_cons_zero, List.set_cons_succ]
            refine takeH 8 34 (v := .agg (hashV T (.slice s37 rs.length c37) n).toArray) rfl (by rfl) (by kernel_rfl) (by kernel_rfl) (by kernel_rfl) (fun _ _ _ h => h) (Or.inl ⟨by rfl, ?_⟩) (hx37) ?_
            · intro wq hSq
              exact exec_build3 _ _ _ rfl T _ _ _ n rfl rfl rfl wq
            try simp only [Act.put, List.setIfInBounds_toArray, List.set_cons_zero, List.set_cons_succ]
            refine wpAnyH_ready (rs := [9]) (by kernel_rfl) (by simp) (AllReadyH.cons rfl (fun K hK => ?_) AllReadyH.nil)
            go_simp
            refine hK.out _ _ (Box.alloc hx37 _) (fun _ => ?_); clear hK K
            refine F_own0 (F := fun W => wpAnyH _ _ _ _ _ _ _ _ W) ?_
            intro W38 nw38 hb38
            have lo38 : ∀ g, (some W37.heap.size : Option Nat) = some g → w1.heap.size ≤ g := fun g hg => by cases hg; exact Below.size hB37
            have ap38bx : Apart (some W5.heap.size) (some W37.heap.size) := Apart.new (Box.lts bx_37)
            have ap38o1 : Apart ((Value.slice s37 (rs).length c37).ownBlock) (some W37.heap.size) := Apart.new (fun g hg => (World.ownsRow.lt nw37 g hg).2)
            have hB38 := below_thru hB37 hb38
            have hx38 := Box.below HX1.out hB38
            have bx_38 := Box.below bx_37 hb38
            have o1_38 := own_below nw37 hb38
            refine wpAnyH_ready (rs := [11]) (by kernel_rfl) (by simp) (AllReadyH.cons rfl (fun K hK => ?_) AllReadyH.nil)
            refine step_append_atd 37 rfl rfl _ _ 28 (by rfl) 0 5 ti (.int .u8 0) 1 .u8 Tryd.underlying28 hin hz0 hz1 hz2 rfl _ [] (xs) _ (by rfl) (by rfl) nw38 (IsL.below I1.out hB38) (by unfold maxLen; simp <;> omega) (by simp <;> omega) (Nat.zero_le _) ?_
            intro v39 W39 nq39 hg39 hat39
            have nw39 : W39.ownsRow 0 5 1 v39 (xs).length ((xs).map (Value.int .u8)) := nq39
            clear nq39
            obtain ⟨s39, c39, rfl⟩ : ∃ a c, v39 = .slice a (xs).length c := own_len nw39
            have lo39 : ∀ g, (Value.slice s39 (xs).length c39).ownBlock = some g → w1.heap.size ≤ g := lo_app hat39 lo38 (Below.size hB38)
            have hB39 : Below w1.heap.size w1 W39 := Below.grown hB38 hg39 (Below.size hB38) lo38
            have hx39 := Box.below HX1.out hB39
            have bx_39 := Box.grown bx_38 hg39 (Apart.symm ap38bx)
            have ap39bx : Apart (Value.slice s39 (xs).length c39).ownBlock (some W5.heap.size) := Apart.app hat39 (Apart.symm ap38bx) (Box.lts bx_38)
            have o1_39 := World.ownsRow.kept o1_38 hg39 (Apart.ne ap38o1)
            have ap39o1 : Apart (Value.slice s39 (xs).length c39).ownBlock ((Value.slice s37 (rs).length c37).ownBlock) := Apart.app hat39 (Apart.symm ap38o1) (fun g hg => (World.ownsRow.lt o1_38 g hg).2)
            refine hK.out _ _ (hx39) (fun _ => ?_); clear hK K
            try simp only [Act.put, List.setIfInBounds_toArray, List.set_cons_zero, List.set_cons_succ]
            refine wpAnyH_ready (rs := [13]) (by kernel_rfl) (by simp) (AllReadyH.cons rfl (fun K hK => ?_) AllReadyH.nil)
            refine step_store_box0 (cs := hashV T (.slice s37 rs.length c37) n) rfl rfl _ _ _ rfl bx_39 rfl rfl size10 rfl (hash_one _ _ _ _ _) ?_
            intro W40 hW40
            have hB40 : Below w1.heap.size w1 W40 := hW40.below _ _ (lo36 _ rfl) hB39
            have hx40 := Box.below HX1.out hB40
            have o1_40 := own_stored o1_39 hW40 ap37bx
            have o2_40 := own_stored nw39 hW40 ap39bx
            refine hK.out _ _ (hx40) (fun _ => ?_); clear hK K
            refine takeH 14 6 (v := ?vw14_41) rfl (by rfl) (by kernel_rfl) (by kernel_rfl) (by kernel_rfl) (fun _ _ _ h => h) (Or.inl ⟨by rfl, ?_⟩) (hx40) ?_
            rotate_left
            · intro wq hSq
              go_simp
              exact rfl
            try simp only [Act.put, List.setIfInBounds_toArray, List.set_cons_zero, List.set_cons_succ]
            refine wpAnyH_done (by kernel_rfl) ?_ _
            go_wp2_with fail
            go_meet
            exact ⟨_, s37, s39, c37, c39, rfl, rfl, hW40.box, o1_40, o2_40, lo37, lo39, lo36 _ rfl, ap37bx, ap39bx, (Apart.symm ap39o1), hB40⟩
          · skip
            go_simp
            refine hK.out _ _ (Box.alloc hx36 _) (fun _ => ?_); clear hK K
            refine F_own0 (F := fun W => wpAnyH _ _ _ _ _ _ _ _ W) ?_
            intro W42 nw42 hb42
            have lo42 : ∀ g, (some W36.heap.size : Option Nat) = some g → w1.heap.size ≤ g := fun g hg => by cases hg; exact Below.size hB36
            have ap42o1 : Apart (some W0.heap.size) (some W36.heap.size) := Apart.new (fun g hg => (World.ownsRow.lt o1_36 g hg).2)
            have ap42bx : Apart (some W5.heap.size) (some W36.heap.size) := Apart.new (Box.lts nw36)
            have hB42 := below_thru hB36 hb42
            have hx42 := Box.below HX1.out hB42
            have o1_42 := own_below o1_36 hb42
            have bx_42 := Box.below nw36 hb42
            refine wpAnyH_ready (rs := [5]) (by kernel_rfl) (by simp) (AllReadyH.cons rfl (fun K hK => ?_) AllReadyH.nil)
            refine step_append_atd 31 rfl rfl _ _ 28 (by rfl) 0 5 ti (.int .u8 0) 1 .u8 Tryd.underlying28 hin hz0 hz1 hz2 rfl _ [] (rs) _ (by rfl) (by rfl) o1_42 (IsL.below I0.out hB42) (by unfold maxLen; simp <;> omega) (by simp <;> omega) (Nat.zero_le _) ?_
            intro v43 W43 nq43 hg43 hat43
            have nw43 : W43.ownsRow 0 5 1 v43 (rs).length ((rs).map (Value.int .u8)) := nq43
            clear nq43
            obtain ⟨s43, c43, rfl⟩ : ∃ a c, v43 = .slice a (rs).length c := own_len nw43
            have lo43 : ∀ g, (Value.slice s43 (rs).length c43).ownBlock = some g → w1.heap.size ≤ g := lo_app hat43 lo5 (Below.size hB42)
            have hB43 : Below w1.heap.size w1 W43 := Below.grown hB42 hg43 (Below.size hB42) lo5
            have hx43 := Box.below HX1.out hB43
            have bx_43 := Box.grown bx_42 hg43 ap36o1
            have ap43bx : Apart (Value.slice s43 (rs).length c43).ownBlock (some W5.heap.size) := Apart.app hat43 ap36o1 (Box.lts bx_42)
            have o2_43 := World.ownsRow.kept nw42 hg43 (Apart.ne (Apart.symm ap42o1))
            have ap43o2 : Apart (Value.slice s43 (rs).length c43).ownBlock (some W36.heap.size) := Apart.app hat43 ap42o1 (fun g hg => (World.ownsRow.lt nw42 g hg).2)
            refine hK.out _ _ (hx43) (fun _ => ?_); clear hK K
            try simp only [Act.put, List.setIfInBounds_toArray, List.set_cons_zero, List.set_cons_succ]
            refine takeH 8 34 (v := .agg (hashV T (.slice s43 rs.length c43) n).toArray) rfl (by rfl) (by kernel_rfl) (by kernel_rfl) (by kernel_rfl) (fun _ _ _ h => h) (Or.inl ⟨by rfl, ?_⟩) (hx43) ?_
            · intro wq hSq
              exact exec_build3 _ _ _ rfl T _ _ _ n rfl rfl rfl wq
            try simp only [Act.put, List.setIfInBounds_toArray, List.set_cons_zero, List.set_cons_succ]
            refine wpAnyH_ready (rs := [11]) (by kernel_rfl) (by simp) (AllReadyH.cons rfl (fun K hK => ?_) AllReadyH.nil)
            refine step_append_atd 37 rfl rfl _ _ 28 (by rfl) 0 5 ti (.int .u8 0) 1 .u8 Tryd.underlying28 hin hz0 hz1 hz2 rfl _ [] (xs) _ (by rfl) (by rfl) o2_43 (IsL.below I1.out hB43) (by unfold maxLen; simp <;> omega) (by simp <;> omega) (Nat.zero_le _) ?_
            intro v44 W44 nq44 hg44 hat44
            have nw44 : W44.ownsRow 0 5 1 v44 (xs).length ((xs).map (Value.int .u8)) := nq44
            clear nq44
            obtain ⟨s44, c44, rfl⟩ : ∃ a c, v44 = .slice a (xs).length c := own_len nw44
            have lo44 : ∀ g, (Value.slice s44 (xs).length c44).ownBlock = some g → w1.heap.size ≤ g := lo_app hat44 lo42 (Below.size hB43)
            have hB44 : Below w1.heap.size w1 W44 := Below.grown hB43 hg44 (Below.size hB43) lo42
            have hx44 := Box.below HX1.out hB44
            have bx_44 := Box.grown bx_43 hg44 (Apart.symm ap42bx)
            have ap44bx : Apart (Value.slice s44 (xs).length c44).ownBlock (some W5.heap.size) := Apart.app hat44 (Apart.symm ap42bx) (Box.lts bx_43)
            have o1_44 := World.ownsRow.kept nw43 hg44 (Apart.ne ap43o2)
            have ap44o1 : Apart (Value.slice s44 (xs).length c44).ownBlock ((Value.slice s43 (rs).length c43).ownBlock) := Apart.app hat44 (Apart.symm ap43o2) (fun g hg => (World.ownsRow.lt nw43 g hg).2)
            refine hK.out _ _ (hx44) (fun _ => ?_); clear hK K
            try simp only [Act.put, List.setIfInBounds_toArray, List.set_cons_zero, List.set_cons_succ]
            refine wpAnyH_ready (rs := [13]) (by kernel_rfl) (by simp) (AllReadyH.cons rfl (fun K hK => ?_) AllReadyH.nil)
            refine step_store_box0 (cs := hashV T (.slice s43 rs.length c43) n) rfl rfl _ _ _ rfl bx_44 rfl rfl size10 rfl (hash_one _ _ _ _ _) ?_
            intro W45 hW45
            have hB45 : Below w1.heap.size w1 W45 := hW45.below _ _ (lo36 _ rfl) hB44
            have hx45 := Box.below HX1.out hB45
            have o1_45 := own_stored o1_44 hW45 ap43bx
            have o2_45 := own_stored nw44 hW45 ap44bx
            refine hK.out _ _ (hx45) (fun _ => ?_); clear hK K
            refine takeH 14 6 (v := ?vw14_46) rfl (by rfl) (by kernel_rfl) (by kernel_rfl) (by kernel_rfl) (fun _ _ _ h => h) (Or.inl ⟨by rfl, ?_⟩) (hx45) ?_
            rotate_left
            · intro wq hSq
              go_simp
              exact rfl
            try simp only [Act.put, List.setIfInBounds_toArray, List.set_cons_zero, List.set_cons_succ]
            refine wpAnyH_done (by kernel_rfl) ?_ _
            go_wp2_with fail
            go_meet
            exact ⟨_, s43, s44, c43, c44, rfl, rfl, hW45.box, o1_45, o2_45, lo43, lo44, lo36 _ rfl, ap43bx, ap44bx, (Apart.symm ap44o1), hB45⟩
      · skip
        go_simp
        refine hK.out _ _ (Box.alloc hx0 _) (fun _ => ?_); clear hK K
        refine F_own0 (F := fun W => wpAnyH _ _ _ _ _ _ _ _ W) ?_
        intro W47 nw47 hb47
        have lo47 : ∀ g, (some W0.heap.size : Option Nat) = some g → w1.heap.size ≤ g := fun g hg => by cases hg; exact Below.size hB0
        have hB47 := below_thru hB0 hb47
        have hx47 := Box.below HX1.out hB47
        refine wpAnyH_ready (rs := [2, 12]) (by kernel_rfl) (by simp) (AllReadyH.cons rfl (fun K hK => ?_) (AllReadyH.cons rfl (fun K hK => ?_) AllReadyH.nil))
        · skip
          go_simp
          refine hK.out _ _ (Box.alloc hx47 _) (fun _ => ?_); clear hK K
          refine F_own0 (F := fun W => wpAnyH _ _ _ _ _ _ _ _ W) ?_
          intro W48 nw48 hb48
          have lo48 : ∀ g, (some W47.heap.size : Option Nat) = some g → w1.heap.size ≤ g := fun g hg => by cases hg; exact Below.size hB47
          have ap48o2 : Apart (some W0.heap.size) (some W47.heap.size) := Apart.new (fun g hg => (World.ownsRow.lt nw47 g hg).2)
          have hB48 := below_thru hB47 hb48
          have hx48 := Box.below HX1.out hB48
          have o2_48 := own_below nw47 hb48
          refine wpAnyH_ready (rs := [5, 12]) (by kernel_rfl) (by simp) (AllReadyH.cons rfl (fun K hK => ?_) (AllReadyH.cons rfl (fun K hK => ?_) AllReadyH.nil))
          · skip
            refine step_append_atd 31 rfl rfl _ _ 28 (by rfl) 0 5 ti (.int .u8 0) 1 .u8 Tryd.underlying28 hin hz0 hz1 hz2 rfl _ [] (rs) _ (by rfl) (by rfl) nw48 (IsL.below I0.out hB48) (by unfold maxLen; simp <;> omega) (by simp <;> omega) (Nat.zero_le _) ?_
            intro v49 W49 nq49 hg49 hat49
            have nw49 : W49.ownsRow 0 5 1 v49 (rs).length ((rs).map (Value.int .u8)) := nq49
            clear nq49
            obtain ⟨s49, c49, rfl⟩ : ∃ a c, v49 = .slice a (rs).length c := own_len nw49
            have lo49 : ∀ g, (Value.slice s49 (rs).length c49).ownBlock = some g → w1.heap.size ≤ g := lo_app hat49 lo48 (Below.size hB48)
            have hB49 : Below w1.heap.size w1 W49 := Below.grown hB48 hg49 (Below.size hB48) lo48
            have hx49 := Box.below HX1.out hB49
            have o2_49 := World.ownsRow.kept o2_48 hg49 (Apart.ne ap48o2)
            have ap49o2 : Apart (Value.slice s49 (rs).length c49).ownBlock (some W0.heap.size) := Apart.app hat49 (Apart.symm ap48o2) (fun g hg => (World.ownsRow.lt o2_48 g hg).2)
            refine hK.out _ _ (hx49) (fun _ => ?_); clear hK K
            try simp only [Act.put, List.setIfInBounds_toArray, List.set_cons_zero, List.set_cons_succ]
            refine takeH 8 34 (v := .agg (hashV T (.slice s49 rs.length c49) n).toArray) rfl (by rfl) (by kernel_rfl) (by kernel_rfl) (by kernel_rfl) (fun _ _ _ h => h) (Or.inl ⟨by rfl, ?_⟩) (hx49) ?_
            · intro wq hSq
              exact exec_build3 _ _ _ rfl T _ _ _ n rfl rfl rfl wq
            try simp only [Act.put, List.setIfInBounds_toArray, List.set_cons_zero, List.set_cons_succ]
            refine wpAnyH_ready (rs := [11, 12]) (by kernel_rfl) (by simp) (AllReadyH.cons rfl (fun K hK => ?_) (AllReadyH.cons rfl (fun K hK => ?_) AllReadyH.nil))
            · skip
              refine step_append_atd 37 rfl rfl _ _ 28 (by rfl) 0 5 ti (.int .u8 0) 1 .u8 Tryd.underlying28 hin hz0 hz1 hz2 rfl _ [] (xs) _ (by rfl) (by rfl) o2_49 (IsL.below I1.out hB49) (by unfold maxLen; simp <;> omega) (by simp <;> omega) (Nat.zero_le _) ?_
              intro v50 W50 nq50 hg50 hat50
              have nw50 : W50.ownsRow 0 5 1 v50 (xs).length ((xs).map (Value.int .u8)) := nq50
              clear nq50
              obtain ⟨s50, c50, rfl⟩ : ∃ a c, v50 = .slice a (xs).length c := own_len nw50
              have lo50 : ∀ g, (Value.slice s50 (xs).length c50).ownBlock = some g → w1.heap.size ≤ g := lo_app hat50 lo47 (Below.size hB49)
              have hB50 : Below w1.heap.size w1 W50 := Below.grown hB49 hg50 (Below.size hB49) lo47
              have hx50 := Box.below HX1.out hB50
              have o1_50 := World.ownsRow.kept nw49 hg50 (Apart.ne ap49o2)
              have ap50o1 : Apart (Value.slice s50 (xs).length c50).ownBlock ((Value.slice s49 (rs).length c49).ownBlock) := Apart.app hat50 (Apart.symm ap49o2) (fun g hg => (World.ownsRow.lt nw49 g hg).2)
              refine hK.out _ _ (hx50) (fun _ => ?_); clear hK K
              try simp only [Act.put, List.setIfInBounds_toArray, List.set_cons_zero, List.set_cons_succ]
              refine wpAnyH_ready (rs := [12]) (by kernel_rfl) (by simp) (AllReadyH.cons rfl (fun K hK => ?_) AllReadyH.nil)
              go_simp
              refine hK.out _ _ (Box.alloc hx50 _) (fun _ => ?_); clear hK K
              refine F_alloc (F := fun W => wpAnyH _ _ _ _ _ _ _ _ W) (zero10) rfl ?_
              intro W51 nw51 hb51
              have lo51 : ∀ g, (some W50.heap.size : Option Nat) = some g → w1.heap.size ≤ g := fun g hg => by cases hg; exact Below.size hB50
              have ap51o1 : Apart ((Value.slice s49 (rs).length c49).ownBlock) (some W50.heap.size) := Apart.new (fun g hg => (World.ownsRow.lt o1_50 g hg).2)
              have ap51o2 : Apart ((Value.slice s50 (xs).length c50).ownBlock) (some W50.heap.size) := Apart.new (fun g hg => (World.ownsRow.lt nw50 g hg).2)
              have hB51 := below_thru hB50 hb51
              have hx51 := Box.below HX1.out hB51
              have o1_51 := own_below o1_50 hb51
              have o2_51 := own_below nw50 hb51
              refine wpAnyH_ready (rs := [13]) (by kernel_rfl) (by simp) (AllReadyH.cons rfl (fun K hK => ?_) AllReadyH.nil)
              refine step_store_box0 (cs := hashV T (.slice s49 rs.length c49) n) rfl rfl _ _ _ rfl nw51 rfl rfl size10 rfl (hash_one _ _ _ _ _) ?_
              intro W52 hW52
              have hB52 : Below w1.heap.size w1 W52 := hW52.below _ _ (lo51 _ rfl) hB51
              have hx52 := Box.below HX1.out hB52
              have o1_52 := own_stored o1_51 hW52 ap51o1
              have o2_52 := own_stored o2_51 hW52 ap51o2
              refine hK.out _ _ (hx52) (fun _ => ?_); clear hK K
              refine takeH 14 6 (v := ?vw14_53) rfl (by rfl) (by kernel_rfl) (by kernel_rfl) (by kernel_rfl) (fun _ _ _ h => h) (Or.inl ⟨by rfl, ?_⟩) (hx52) ?_
              rotate_left
              · intro wq hSq
                go_simp
                exact rfl
              try simp only [Act.put, List.setIfInBounds_toArray, List.set_cons_zero, List.set_cons_succ]
              refine wpAnyH_done (by kernel_rfl) ?_ _
              go_wp2_with fail
              go_meet
              exact ⟨_, s49, s50, c49, c50, rfl, rfl, hW52.box, o1_52, o2_52, lo49, lo50, lo51 _ rfl, ap51o1, ap51o2, (Apart.symm ap50o1), hB52⟩
            · skip
              go_simp
              refine hK.out _ _ (Box.alloc hx49 _) (fun _ => ?_); clear hK K
              refine F_alloc (F := fun W => wpAnyH _ _ _ _ _ _ _ _ W) (zero10) rfl ?_
              intro W54 nw54 hb54
              have lo54 : ∀ g, (some W49.heap.size : Option Nat) = some g → w1.heap.size ≤ g := fun g hg => by cases hg; exact Below.size hB49
              have ap54o2 : Apart (some W0.heap.size) (some W49.heap.size) := Apart.new (fun g hg => (World.ownsRow.lt o2_49 g hg).2)
              have ap54o1 : Apart ((Value.slice s49 (rs).length c49).ownBlock) (some W49.heap.size) := Apart.new (fun g hg => (World.ownsRow.lt nw49 g hg).2)
              have hB54 := below_thru hB49 hb54
              have hx54 := Box.below HX1.out hB54
              have o2_54 := own_below o2_49 hb54
              have o1_54 := own_below nw49 hb54
              refine wpAnyH_ready (rs := [11]) (by kernel_rfl) (by simp) (AllReadyH.cons rfl (fun K hK => ?_) AllReadyH.nil)
              refine step_append_atd 37 rfl rfl _ _ 28 (by rfl) 0 5 ti (.int .u8 0) 1 .u8 Tryd.underlying28 hin hz0 hz1 hz2 rfl _ [] (xs) _ (by rfl) (by rfl) o2_54 (IsL.below I1.out hB54) (by unfold maxLen; simp <;> omega) (by simp <;> omega) (Nat.zero_le _) ?_
              intro v55 W55 nq55 hg55 hat55
              have nw55 : W55.ownsRow 0 5 1 v55 (xs).length ((xs).map (Value.int .u8)) := nq55
              clear nq55
              obtain ⟨s55, c55, rfl⟩ : ∃ a c, v55 = .slice a (xs).length c := own_len nw55
              have lo55 : ∀ g, (Value.slice s55 (xs).length c55).ownBlock = some g → w1.heap.size ≤ g := lo_app hat55 lo47 (Below.size hB54)
              have hB55 : Below w1.heap.size w1 W55 := Below.grown hB54 hg55 (Below.size hB54) lo47
              have hx55 := Box.below HX1.out hB55
              have o1_55 := World.ownsRow.kept o1_54 hg55 (Apart.ne ap49o2)
              have ap55o1 : Apart (Value.slice s55 (xs).length c55).ownBlock ((Value.slice s49 (rs).length c49).ownBlock) := Apart.app hat55 (Apart.symm ap49o2) (fun g hg => (World.ownsRow.lt o1_54 g hg).2)
              have bx_55 := Box.grown nw54 hg55 ap54o2
              have ap55bx : Apart (Value.slice s55 (xs).length c55).ownBlock (some W49.heap.size) := Apart.app hat55 ap54o2 (Box.lts nw54)
              refine hK.out _ _ (hx55) (fun _ => ?_); clear hK K
              try simp only [Act.put, List.setIfInBounds_toArray, List.set_cons_zero, List.set_cons_succ]
              refine wpAnyH_ready (rs := [13]) (by kernel_rfl) (by simp) (AllReadyH.cons rfl (fun K hK => ?_) AllReadyH.nil)
              refine step_store_box0 (cs := hashV T (.slice s49 rs.length c49) n) rfl rfl _ _ _ rfl bx_55 rfl rfl size10 rfl (hash_one _ _ _ _ _) ?_
              intro W56 hW56
              have hB56 : Below w1.heap.size w1 W56 := hW56.below _ _ (lo54 _ rfl) hB55
              have hx56 := Box.below HX1.out hB56
              have o1_56 := own_stored o1_55 hW56 ap54o1
              have o2_56 := own_stored nw55 hW56 ap55bx
              refine hK.out _ _ (hx56) (fun _ => ?_); clear hK K
              refine takeH 14 6 (v := ?vw14_57) rfl (by rfl) (by kernel_rfl) (by kernel_rfl) (by kernel_rfl) (fun _ _ _ h => h) (Or.inl ⟨by rfl, ?_⟩) (hx56) ?_
              rotate_left
              · intro wq hSq
                go_simp
                exact rfl
              try simp only [Act.put, List.setIfInBounds_toArray, List.set_cons_zero, List.set_cons_succ]
              refine wpAnyH_done (by kernel_rfl) ?_ _
              go_wp2_with fail
              go_meet
              exact ⟨_, s49, s55, c49, c55, rfl, rfl, hW56.box, o1_56, o2_56, lo49, lo55, lo54 _ rfl, ap54o1, ap55bx, (Apart.symm ap55o1), hB56⟩
          · skip
            go_simp
            refine hK.out _ _ (Box.alloc hx48 _) (fun _ => ?_); clear hK K
            refine F_alloc (F := fun W => wpAnyH _ _ _ _ _ _ _ _ W) (zero10) rfl ?_
            intro W58 nw58 hb58
            have lo58 : ∀ g, (some W48.heap.size : Option Nat) = some g → w1.heap.size ≤ g := fun g hg => by cases hg; exact Below.size hB48
            have ap58o2 : Apart (some W0.heap.size) (some W48.heap.size) := Apart.new (fun g hg => (World.ownsRow.lt o2_48 g hg).2)
            have ap58o1 : Apart (some W47.heap.size) (some W48.heap.size) := Apart.new (fun g hg => (World.ownsRow.lt nw48 g hg).2)
            have hB58 := below_thru hB48 hb58
            have hx58 := Box.below HX1.out hB58
            have o2_58 := own_below o2_48 hb58
            have o1_58 := own_below nw48 hb58
            refine wpAnyH_ready (rs := [5]) (by kernel_rfl) (by simp) (AllReadyH.cons rfl (fun K hK => ?_) AllReadyH.nil)
            refine step_append_atd 31 rfl rfl _ _ 28 (by rfl) 0 5 ti (.int .u8 0) 1 .u8 Tryd.underlying28 hin hz0 hz1 hz2 rfl _ [] (rs) _ (by rfl) (by rfl) o1_58 (IsL.below I0.out hB58) (by unfold maxLen; simp <;> omega) (by simp <;> omega) (Nat.zero_le _) ?_
            intro v59 W59 nq59 hg59 hat59
            have nw59 : W59.ownsRow 0 5 1 v59 (rs).length ((rs).map (Value.int .u8)) := nq59
            clear nq59
            obtain ⟨s59, c59, rfl⟩ : ∃ a c, v59 = .slice a (rs).length c := own_len nw59
            have lo59 : ∀ g, (Value.slice s59 (rs).length c59).ownBlock = some g → w1.heap.size ≤ g := lo_app hat59 lo48 (Below.size hB58)
            have hB59 : Below w1.heap.size w1 W59 := Below.grown hB58 hg59 (Below.size hB58) lo48
            have hx59 := Box.below HX1.out hB59
            have o2_59 := World.ownsRow.kept o2_58 hg59 (Apart.ne ap48o2)
            have ap59o2 : Apart (Value.slice s59 (rs).length c59).ownBlock (some W0.heap.size) := Apart.app hat59 (Apart.symm ap48o2) (fun g hg => (World.ownsRow.lt o2_58 g hg).2)
            have bx_59 := Box.grown nw58 hg59 ap58o1
            have ap59bx : Apart (Value.slice s59 (rs).length c59).ownBlock (some W48.heap.size) := Apart.app hat59 ap58o1 (Box.lts nw58)
            refine hK.out _ _ (hx59) (fun _ => ?_); clear hK K
            try simp only [Act.put, List.setIfInBounds_toArray, List.set_cons_zero, List.set_cons_succ]
            refine takeH 8 34 (v := .agg (hashV T (.slice s59 rs.length c59) n).toArray) rfl (by rfl) (by kernel_rfl) (by kernel_rfl) (by kernel_rfl) (fun _ _ _ h => h) (Or.inl ⟨by rfl, ?_⟩) (hx59) ?_
            · intro wq hSq
              exact exec_build3 _ _ _ rfl T _ _ _ n rfl rfl rfl wq
            try simp only [Act.put, List.setIfInBounds_toArray, List.set_cons_zero, List.set_cons_succ]
            refine wpAnyH_ready (rs := [11]) (by kernel_rfl) (by simp) (AllReadyH.cons rfl (fun K hK => ?_) AllReadyH.nil)
            refine step_append_atd 37 rfl rfl _ _ 28 (by rfl) 0 5 ti (.int .u8 0) 1 .u8 Tryd.underlying28 hin hz0 hz1 hz2 rfl _ [] (xs) _ (by rfl) (by rfl) o2_59 (IsL.below I1.out hB59) (by unfold maxLen; simp <;> omega) (by simp <;> omega) (Nat.zero_le _) ?_
            intro v60 W60 nq60 hg60 hat60
            have nw60 : W60.ownsRow 0 5 1 v60 (xs).length ((xs).map (Value.int .u8)) := nq60
            clear nq60
            obtain ⟨s60, c60, rfl⟩ : ∃ a c, v60 = .slice a (xs).length c := own_len nw60
            have lo60 : ∀ g, (Value.slice s60 (xs).length c60).ownBlock = some g → w1.heap.size ≤ g := lo_app hat60 lo47 (Below.size hB59)
            have hB60 : Below w1.heap.size w1 W60 := Below.grown hB59 hg60 (Below.size hB59) lo47
            have hx60 := Box.below HX1.out hB60
            have bx_60 := Box.grown bx_59 hg60 ap58o2
            have ap60bx : Apart (Value.slice s60 (xs).length c60).ownBlock (some W48.heap.size) := Apart.app hat60 ap58o2 (Box.lts bx_59)
            have o1_60 := World.ownsRow.kept nw59 hg60 (Apart.ne ap59o2)
            have ap60o1 : Apart (Value.slice s60 (xs).length c60).ownBlock ((Value.slice s59 (rs).length c59).ownBlock) := Apart.app hat60 (Apart.symm ap59o2) (fun g hg => (World.ownsRow.lt nw59 g hg).2)
            refine hK.out _ _ (hx60) (fun _ => ?_); clear hK K
            try simp only [Act.put, List.setIfInBounds_toArray, List.set_cons_zero, List.set_cons_succ]
            refine wpAnyH_ready (rs := [13]) (by kernel_rfl) (by simp) (AllReadyH.cons rfl (fun K hK => ?_) AllReadyH.nil)
            refine step_store_box0 (cs := hashV T (.slice s59 rs.length c59) n) rfl rfl _ _ _ rfl bx_60 rfl rfl size10 rfl (hash_one _ _ _ _ _) ?_
            intro W61 hW61
            have hB61 : Below w1.heap.size w1 W61 := hW61.below _ _ (lo58 _ rfl) hB60
            have hx61 := Box.below HX1.out hB61
            have o1_61 := own_stored o1_60 hW61 ap59bx
            have o2_61 := own_stored nw60 hW61 ap60bx
            refine hK.out _ _ (hx61) (fun _ => ?_); clear hK K
            refine takeH 14 6 (v := ?vw14_62) rfl (by rfl) (by kernel_rfl) (by kernel_rfl) (by kernel_rfl) (fun _ _ _ h => h) (Or.inl ⟨by rfl, ?_⟩) (hx61) ?_
            rotate_left
            · intro wq hSq
              go_simp
              exact rfl
            try simp only [Act.put, List.setIfInBounds_toArray, List.set_cons_zero, List.set_cons_succ]
            refine wpAnyH_done (by kernel_rfl) ?_ _
            go_wp2_with fail
            go_meet
            exact ⟨_, s59, s60, c59, c60, rfl, rfl, hW61.box, o1_61, o2_61, lo59, lo60, lo58 _ rfl, ap59bx, ap60bx, (Apart.symm ap60o1), hB61⟩
        · skip
          go_simp
          refine hK.out _ _ (Box.alloc hx47 _) (fun _ => ?_); clear hK K
          refine F_alloc (F := fun W => wpAnyH _ _ _ _ _ _ _ _ W) (zero10) rfl ?_
          intro W63 nw63 hb63
          have lo63 : ∀ g, (some W47.heap.size : Option Nat) = some g → w1.heap.size ≤ g := fun g hg => by cases hg; exact Below.size hB47
          have ap63o2 : Apart (some W0.heap.size) (some W47.heap.size) := Apart.new (fun g hg => (World.ownsRow.lt nw47 g hg).2)
          have hB63 := below_thru hB47 hb63
          have hx63 := Box.below HX1.out hB63
          have o2_63 := own_below nw47 hb63
          refine wpAnyH_ready (rs := [2]) (by kernel_rfl) (by simp) (AllReadyH.cons rfl (fun K hK => ?_) AllReadyH.nil)
          go_simp
          refine hK.out _ _ (Box.alloc hx63 _) (fun _ => ?_); clear hK K
          refine F_own0 (F := fun W => wpAnyH _ _ _ _ _ _ _ _ W) ?_
          intro W64 nw64 hb64
          have lo64 : ∀ g, (some W63.heap.size : Option Nat) = some g → w1.heap.size ≤ g := fun g hg => by cases hg; exact Below.size hB63
          have ap64o2 : Apart (some W0.heap.size) (some W63.heap.size) := Apart.new (fun g hg => (World.ownsRow.lt o2_63 g hg).2)
          have ap64bx : Apart (some W47.heap.size) (some W63.heap.size) := Apart.new (Box.lts nw63)
          have hB64 := below_thru hB63 hb64
          have hx64 := Box.below HX1.out hB64
          have o2_64 := own_below o2_63 hb64
          have bx_64 := Box.below nw63 hb64
          refine wpAnyH_ready (rs := [5]) (by kernel_rfl) (by simp) (AllReadyH.cons rfl (fun K hK => ?_) AllReadyH.nil)
          refine step_append_atd 31 rfl rfl _ _ 28 (by rfl) 0 5 ti (.int .u8 0) 1 .u8 Tryd.underlying28 hin hz0 hz1 hz2 rfl _ [] (rs) _ (by rfl) (by rfl) nw64 (IsL.below I0.out hB64) (by unfold maxLen; simp <;> omega) (by simp <;> omega) (Nat.zero_le _) ?_
          intro v65 W65 nq65 hg65 hat65
          have nw65 : W65.ownsRow 0 5 1 v65 (rs).length ((rs).map (Value.int .u8)) := nq65
          clear nq65
          obtain ⟨s65, c65, rfl⟩ : ∃ a c, v65 = .slice a (rs).length c := own_len nw65
          have lo65 : ∀ g, (Value.slice s65 (rs).length c65).ownBlock = some g → w1.heap.size ≤ g := lo_app hat65 lo64 (Below.size hB64)
          have hB65 : Below w1.heap.size w1 W65 := Below.grown hB64 hg65 (Below.size hB64) lo64
          have hx65 := Box.below HX1.out hB65
          have o2_65 := World.ownsRow.kept o2_64 hg65 (Apart.ne ap64o2)
          have ap65o2 : Apart (Value.slice s65 (rs).length c65).ownBlock (some W0.heap.size) := Apart.app hat65 (Apart.symm ap64o2) (fun g hg => (World.ownsRow.lt o2_64 g hg).2)
          have bx_65 := Box.grown bx_64 hg65 (Apart.symm ap64bx)
          have ap65bx : Apart (Value.slice s65 (rs).length c65).ownBlock (some W47.heap.size) := Apart.app hat65 (Apart.symm ap64bx) (Box.lts bx_64)
          refine hK.out _ _ (hx65) (fun _ => ?_); clear hK K
          try simp only [Act.put, List.setIfInBounds_toArray, List.set_cons_zero, List.set_cons_succ]
          refine takeH 8 34 (v := .agg (hashV T (.slice s65 rs.length c65) n).toArray) rfl (by rfl) (by kernel_rfl) (by kernel_rfl) (by kernel_rfl) (fun _ _ _ h => h) (Or.inl ⟨by rfl, ?_⟩) (hx65) ?_
          · intro wq hSq
            exact exec_build3 _ _ _ rfl T _ _ _ n rfl rfl rfl wq
          try simp only [Act.put, List.setIfInBounds_toArray, List.set_cons_zero, List.set_cons_succ]
          refine wpAnyH_ready (rs := [11]) (by kernel_rfl) (by simp) (AllReadyH.cons rfl (fun K hK => ?_) AllReadyH.nil)
          refine step_append_atd 37 rfl rfl _ _ 28 (by rfl) 0 5 ti (.int .u8 0) 1 .u8 Tryd.underlying28 hin hz0 hz1 hz2 rfl _ [] (xs) _ (by rfl) (by rfl) o2_65 (IsL.below I1.out hB65) (by unfold maxLen; simp <;> omega) (by simp <;> omega) (Nat.zero_le _) ?_
          intro v66 W66 nq66 hg66 hat66
          have nw66 : W66.ownsRow 0 5 1 v66 (xs).length ((xs).map (Value.int .u8)) := nq66
          clear nq66
          obtain ⟨s66, c66, rfl⟩ : ∃ a c, v66 = .slice a (xs).length c := own_len nw66
          have lo66 : ∀ g, (Value.slice s66 (xs).length c66).ownBlock = some g → w1.heap.size ≤ g := lo_app hat66 lo47 (Below.size hB65)
          have hB66 : Below w1.heap.size w1 W66 := Below.grown hB65 hg66 (Below.size hB65) lo47
          have hx66 := Box.below HX1.out hB66
          have bx_66 := Box.grown bx_65 hg66 ap63o2
          have ap66bx : Apart (Value.slice s66 (xs).length c66).ownBlock (some W47.heap.size) := Apart.app hat66 ap63o2 (Box.lts bx_65)
          have o1_66 := World.ownsRow.kept nw65 hg66 (Apart.ne ap65o2)
          have ap66o1 : Apart (Value.slice s66 (xs).length c66).ownBlock ((Value.slice s65 (rs).length c65).ownBlock) := Apart.app hat66 (Apart.symm ap65o2) (fun g hg => (World.ownsRow.lt nw65 g hg).2)
          refine hK.out _ _ (hx66) (fun _ => ?_); clear hK K
          try simp only [Act.put, List.setIfInBounds_toArray, List.set_cons_zero, List.set_cons_succ]
          refine wpAnyH_ready (rs := [13]) (by kernel_rfl) (by simp) (AllReadyH.cons rfl (fun K hK => ?_) AllReadyH.nil)
          refine step_store_box0 (cs := hashV T (.slice s65 rs.length c65) n) rfl rfl _ _ _ rfl bx_66 rfl rfl size10 rfl (hash_one _ _ _ _ _) ?_
          intro W67 hW67
          have hB67 : Below w1.heap.size w1 W67 := hW67.below _ _ (lo63 _ rfl) hB66
          have hx67 := Box.below HX1.out hB67
          have o1_67 := own_stored o1_66 hW67 ap65bx
          have o2_67 := own_stored nw66 hW67 ap66bx
          refine hK.out _ _ (hx67) (fun _ => ?_); clear hK K
          refine takeH 14 6 (v := ?vw14_68) rfl (by rfl) (by kernel_rfl) (by kernel_rfl) (by kernel_rfl) (fun _ _ _ h => h) (Or.inl ⟨by rfl, ?_⟩) (hx67) ?_
          rotate_left
          · intro wq hSq
            go_simp
            exact rfl
          try simp only [Act.put, List.setIfInBounds_toArray, List.set_cons_zero, List.set_cons_succ]
          refine wpAnyH_done (by kernel_rfl) ?_ _
          go_wp2_with fail
          go_meet
          exact ⟨_, s65, s66, c65, c66, rfl, rfl, hW67.box, o1_67, o2_67, lo65, lo66, lo63 _ rfl, ap65bx, ap66bx, (Apart.symm ap66o1), hB67⟩
      · skip
        go_simp
        refine hK.out _ _ (Box.alloc hx0 _) (fun _ => ?_); clear hK K
        refine F_alloc (F := fun W => wpAnyH _ _ _ _ _ _ _ _ W) (zero10) rfl ?_
        intro W69 nw69 hb69
        have lo69 : ∀ g, (some W0.heap.size : Option Nat) = some g → w1.heap.size ≤ g := fun g hg => by cases hg; exact Below.size hB0
        have hB69 := below_thru hB0 hb69
        have hx69 := Box.below HX1.out hB69
        refine wpAnyH_ready (rs := [2, 9]) (by kernel_rfl) (by simp) (AllReadyH.cons rfl (fun K hK => ?_) (AllReadyH.cons rfl (fun K hK => ?_) AllReadyH.nil))
        · skip
          go_simp
          refine hK.out _ _ (Box.alloc hx69 _) (fun _ => ?_); clear hK K
          refine F_own0 (F := fun W => wpAnyH _ _ _ _ _ _ _ _ W) ?_
          intro W70 nw70 hb70
          have lo70 : ∀ g, (some W69.heap.size : Option Nat) = some g → w1.heap.size ≤ g := fun g hg => by cases hg; exact Below.size hB69
          have ap70bx : Apart (some W0.heap.size) (some W69.heap.size) := Apart.new (Box.lts nw69)
          have hB70 := below_thru hB69 hb70
          have hx70 := Box.below HX1.out hB70
          have bx_70 := Box.below nw69 hb70
          refine wpAnyH_ready (rs := [5, 9]) (by kernel_rfl) (by simp) (AllReadyH.cons rfl (fun K hK => ?_) (AllReadyH.cons rfl (fun K hK => ?_) AllReadyH.nil))
          · skip
            refine step_append_atd 31 rfl rfl _ _ 28 (by rfl) 0 5 ti (.int .u8 0) 1 .u8 Tryd.underlying28 hin hz0 hz1 hz2 rfl _ [] (rs) _ (by rfl) (by rfl) nw70 (IsL.below I0.out hB70) (by unfold maxLen; simp <;> omega) (by simp <;> omega) (Nat.zero_le _) ?_
            intro v71 W71 nq71 hg71 hat71
            have nw71 : W71.ownsRow 0 5 1 v71 (rs).length ((rs).map (Value.int .u8)) := nq71
            clear nq71
            obtain ⟨s71, c71, rfl⟩ : ∃ a c, v71 = .slice a (rs).length c := own_len nw71
            have lo71 : ∀ g, (Value.slice s71 (rs).length c71).ownBlock = some g → w1.heap.size ≤ g := lo_app hat71 lo70 (Below.size hB70)
            have hB71 : Below w1.heap.size w1 W71 := Below.grown hB70 hg71 (Below.size hB70) lo70
            have hx71 := Box.below HX1.out hB71
            have bx_71 := Box.grown bx_70 hg71 (Apart.symm ap70bx)
            have ap71bx : Apart (Value.slice s71 (rs).length c71).ownBlock (some W0.heap.size) := Apart.app hat71 (Apart.symm ap70bx) (Box.lts bx_70)
            refine hK.out _ _ (hx71) (fun _ => ?_); clear hK K
            try simp only [Act.put, List.setIfInBounds_toArray, List.set_cons_zero, List.set_cons_succ]
            refine takeH 8 34 (v := .agg (hashV T (.slice s71 rs.length c71) n).toArray) rfl (by rfl) (by kernel_rfl) (by kernel_rfl) (by kernel_rfl) (fun _ _ _ h => h) (Or.inl ⟨by rfl, ?_⟩) (hx71) ?_
            · intro wq hSq
              exact exec_build3 _ _ _ rfl T _ _ _ n rfl rfl rfl wq
            try simp only [Act.put, List.setIfInBounds_toArray, List.set_cons_zero, List.set_cons_succ]
            refine wpAnyH_ready (rs := [9]) (by kernel_rfl) (by simp) (AllReadyH.cons rfl (fun K hK => ?_) AllReadyH.nil)
            go_simp
            refine hK.out _ _ (Box.alloc hx71 _) (fun _ => ?_); clear hK K
            refine F_own0 (F := fun W => wpAnyH _ _ _ _ _ _ _ _ W) ?_
            intro W72 nw72 hb72
            have lo72 : ∀ g, (some W71.heap.size : Option Nat) = some g → w1.heap.size ≤ g := fun g hg => by cases hg; exact Below.size hB71
            have ap72bx : Apart (some W0.heap.size) (some W71.heap.size) := Apart.new (Box.lts bx_71)
            have ap72o1 : Apart ((Value.slice s71 (rs).length c71).ownBlock) (some W71.heap.size) := Apart.new (fun g hg => (World.ownsRow.lt nw71 g hg).2)
            have hB72 := below_thru hB71 hb72
            have hx72 := Box.below HX1.out hB72
            have bx_72 := Box.below bx_71 hb72
            have o1_72 := own_below nw71 hb72
            refine wpAnyH_ready (rs := [11]) (by kernel_rfl) (by simp) (AllReadyH.cons rfl (fun K hK => ?_) AllReadyH.nil)
            refine step_append_atd 37 rfl rfl _ _ 28 (by rfl) 0 5 ti (.int .u8 0) 1 .u8 Tryd.underlying28 hin hz0 hz1 hz2 rfl _ [] (xs) _ (by rfl) (by rfl) nw72 (IsL.below I1.out hB72) (by unfold maxLen; simp <;> omega) (by simp <;> omega) (Nat.zero_le _) ?_
            intro v73 W73 nq73 hg73 hat73
            have nw73 : W73.ownsRow 0 5 1 v73 (xs).length ((xs).map (Value.int .u8)) := nq73
            clear nq73
            obtain ⟨s73, c73, rfl⟩ : ∃ a c, v73 = .slice a (xs).length c := own_len nw73
            have lo73 : ∀ g, (Value.slice s73 (xs).length c73).ownBlock = some g → w1.heap.size ≤ g := lo_app hat73 lo72 (Below.size hB72)
            have hB73 : Below w1.heap.size w1 W73 := Below.grown hB72 hg73 (Below.size hB72) lo72
            have hx73 := Box.below HX1.out hB73
            have bx_73 := Box.grown bx_72 hg73 (Apart.symm ap72bx)
            have ap73bx : Apart (Value.slice s73 (xs).length c73).ownBlock (some W0.heap.size) := Apart.app hat73 (Apart.symm ap72bx) (Box.lts bx_72)
            have o1_73 := World.ownsRow.kept o1_72 hg73 (Apart.ne ap72o1)
            have ap73o1 : Apart (Value.slice s73 (xs).length c73).ownBlock ((Value.slice s71 (rs).length c71).ownBlock) := Apart.app hat73 (Apart.symm ap72o1) (fun g hg => (World.ownsRow.lt o1_72 g hg).2)
            refine hK.out _ _ (hx73) (fun _ => ?_); clear hK K
            try simp only [Act.put, List.setIfInBounds_toArray, List.set_cons_zero, List.set_cons_succ]
            refine wpAnyH_ready (rs := [13]) (by kernel_rfl) (by simp) (AllReadyH.cons rfl (fun K hK => ?_) AllReadyH.nil)
            refine step_store_box0 (cs := hashV T (.slice s71 rs.length c71) n) rfl rfl _ _ _ rfl bx_73 rfl rfl size10 rfl (hash_one _ _ _ _ _) ?_
            intro W74 hW74
            have hB74 : Below w1.heap.size w1 W74 := hW74.below _ _ (lo69 _ rfl) hB73
            have hx74 := Box.below HX1.out hB74
            have o1_74 := own_stored o1_73 hW74 ap71bx
            have o2_74 := own_stored nw73 hW74 ap73bx
            refine hK.out _ _ (hx74) (fun _ => ?_); clear hK K
            refine takeH 14 6 (v := ?vw14_75) rfl (by rfl) (by kernel_rfl) (by kernel_rfl) (by kernel_rfl) (fun _ _ _ h => h) (Or.inl ⟨by rfl, ?_⟩) (hx74) ?_
            rotate_left
            · intro wq hSq
              go_simp
              exact rfl
            try simp only [Act.put, List.setIfInBounds_toArray, List.set_cons_zero, List.set_cons_succ]
            refine wpAnyH_done (by kernel_rfl) ?_ _
            go_wp2_with fail
            go_meet
            exact ⟨_, s71, s73, c71, c73, rfl, rfl, hW74.box, o1_74, o2_74, lo71, lo73, lo69 _ rfl, ap71bx, ap73bx, (Apart.symm ap73o1), hB74⟩
          · skip
            go_simp
            refine hK.out _ _ (Box.alloc hx70 _) (fun _ => ?_); clear hK K
            refine F_own0 (F := fun W => wpAnyH _ _ _ _ _ _ _ _ W) ?_
            intro W76 nw76 hb76
            have lo76 : ∀ g, (some W70.heap.size : Option Nat) = some g → w1.heap.size ≤ g := fun g hg => by cases hg; exact Below.size hB70
            have ap76bx : Apart (some W0.heap.size) (some W70.heap.size) := Apart.new (Box.lts bx_70)
            have ap76o1 : Apart (some W69.heap.size) (some W70.heap.size) := Apart.new (fun g hg => (World.ownsRow.lt nw70 g hg).2)
            have hB76 := below_thru hB70 hb76
            have hx76 := Box.below HX1.out hB76
            have bx_76 := Box.below bx_70 hb76
            have o1_76 := own_below nw70 hb76
            refine wpAnyH_ready (rs := [5]) (by kernel_rfl) (by simp) (AllReadyH.cons rfl (fun K hK => ?_) AllReadyH.nil)
            refine step_append_atd 31 rfl rfl _ _ 28 (by rfl) 0 5 ti (.int .u8 0) 1 .u8 Tryd.underlying28 hin hz0 hz1 hz2 rfl _ [] (rs) _ (by rfl) (by rfl) o1_76 (IsL.below I0.out hB76) (by unfold maxLen; simp <;> omega) (by simp <;> omega) (Nat.zero_le _) ?_
            intro v77 W77 nq77 hg77 hat77
            have nw77 : W77.ownsRow 0 5 1 v77 (rs).length ((rs).map (Value.int .u8)) := nq77
            clear nq77
            obtain ⟨s77, c77, rfl⟩ : ∃ a c, v77 = .slice a (rs).length c := own_len nw77
            have lo77 : ∀ g, (Value.slice s77 (rs).length c77).ownBlock = some g → w1.heap.size ≤ g := lo_app hat77 lo70 (Below.size hB76)
            have hB77 : Below w1.heap.size w1 W77 := Below.grown hB76 hg77 (Below.size hB76) lo70
            have hx77 := Box.below HX1.out hB77
            have bx_77 := Box.grown bx_76 hg77 (Apart.symm ap70bx)
            have ap77bx : Apart (Value.slice s77 (rs).length c77).ownBlock (some W0.heap.size) := Apart.app hat77 (Apart.symm ap70bx) (Box.lts bx_76)
            have o2_77 := World.ownsRow.kept nw76 hg77 (Apart.ne (Apart.symm ap76o1))
            have ap77o2 : Apart (Value.slice s77 (rs).length c77).ownBlock (some W70.heap.size) := Apart.app hat77 ap76o1 (fun g hg => (World.ownsRow.lt nw76 g hg).2)
            refine hK.out _ _ (hx77) (fun _ => ?_); clear hK K
            try simp only [Act.put, List.setIfInBounds_toArray, List.set_cons_zero, List.set_cons_succ]
            refine takeH 8 34 (v := .agg (hashV T (.slice s77 rs.length c77) n).toArray) rfl (by rfl) (by kernel_rfl) (by kernel_rfl) (by kernel_rfl) (fun _ _ _ h => h) (Or.inl ⟨by rfl, ?_⟩) (hx77) ?_
            · intro wq hSq
              exact exec_build3 _ _ _ rfl T _ _ _ n rfl rfl rfl wq
            try simp only [Act.put, List.setIfInBounds_toArray, List.set_cons_zero, List.set_cons_succ]
            refine wpAnyH_ready (rs := [11]) (by kernel_rfl) (by simp) (AllReadyH.cons rfl (fun K hK => ?_) AllReadyH.nil)
            refine step_append_atd 37 rfl rfl _ _ 28 (by rfl) 0 5 ti (.int .u8 0) 1 .u8 Tryd.underlying28 hin hz0 hz1 hz2 rfl _ [] (xs) _ (by rfl) (by rfl) o2_77 (IsL.below I1.out hB77) (by unfold maxLen; simp <;> omega) (by simp <;> omega) (Nat.zero_le _) ?_
            intro v78 W78 nq78 hg78 hat78
            have nw78 : W78.ownsRow 0 5 1 v78 (xs).length ((xs).map (Value.int .u8)) := nq78
            clear nq78
            obtain ⟨s78, c78, rfl⟩ : ∃ a c, v78 = .slice a (xs).length c := own_len nw78
            have lo78 : ∀ g, (Value.slice s78 (xs).length c78).ownBlock = some g → w1.heap.size ≤ g := lo_app hat78 lo76 (Below.size hB77)
            have hB78 : Below w1.heap.size w1 W78 := Below.grown hB77 hg78 (Below.size hB77) lo76
            have hx78 := Box.below HX1.out hB78
            have bx_78 := Box.grown bx_77 hg78 (Apart.symm ap76bx)
            have ap78bx : Apart (Value.slice s78 (xs).length c78).ownBlock (some W0.heap.size) := Apart.app hat78 (Apart.symm ap76bx) (Box.lts bx_77)
            have o1_78 := World.ownsRow.kept nw77 hg78 (Apart.ne ap77o2)
            have ap78o1 : Apart (Value.slice s78 (xs).length c78).ownBlock ((Value.slice s77 (rs).length c77).ownBlock) := Apart.app hat78 (Apart.symm ap77o2) (fun g hg => (World.ownsRow.lt nw77 g hg).2)
            refine hK.out _ _ (hx78) (fun _ => ?_); clear hK K
            try simp only [Act.put, List.setIfInBounds_toArray, List.set_cons_zero, List.set_cons_succ]
            refine wpAnyH_ready (rs := [13]) (by kernel_rfl) (by simp) (AllReadyH.cons rfl (fun K hK => ?_) AllReadyH.nil)
            refine step_store_box0 (cs := hashV T (.slice s77 rs.length c77) n) rfl rfl _ _ _ rfl bx_78 rfl rfl size10 rfl (hash_one _ _ _ _ _) ?_
            intro W79 hW79
            have hB79 : Below w1.heap.size w1 W79 := hW79.below _ _ (lo69 _ rfl) hB78
            have hx79 := Box.below HX1.out hB79
            have o1_79 := own_stored o1_78 hW79 ap77bx
            have o2_79 := own_stored nw78 hW79 ap78bx
            refine hK.out _ _ (hx79) (fun _ => ?_); clear hK K
            refine takeH 14 6 (v := ?vw14_80) rfl (by rfl) (by kernel_rfl) (by kernel_rfl) (by kernel_rfl) (fun _ _ _ h => h) (Or.inl ⟨by rfl, ?_⟩) (hx79) ?_
            rotate_left
            · intro wq hSq
              go_simp
              exact rfl
            try simp only [Act.put, List.setIfInBounds_toArray, List.set_cons_zero, List.set_cons_succ]
            refine wpAnyH_done (by kernel_rfl) ?_ _
            go_wp2_with fail
            go_meet
            exact ⟨_, s77, s78, c77, c78, rfl, rfl, hW79.box, o1_79, o2_79, lo77, lo78, lo69 _ rfl, ap77bx, ap78bx, (Apart.symm ap78o1), hB79⟩
        · skip
          go_simp
          refine hK.out _ _ (Box.alloc hx69 _) (fun _ => ?_); clear hK K
          refine F_own0 (F := fun W => wpAnyH _ _ _ _ _ _ _ _ W) ?_
          intro W81 nw81 hb81
          have lo81 : ∀ g, (some W69.heap.size : Option Nat) = some g → w1.heap.size ≤ g := fun g hg => by cases hg; exact Below.size hB69
          have ap81bx : Apart (some W0.heap.size) (some W69.heap.size) := Apart.new (Box.lts nw69)
          have hB81 := below_thru hB69 hb81
          have hx81 := Box.below HX1.out hB81
          have bx_81 := Box.below nw69 hb81
          refine wpAnyH_ready (rs := [2]) (by kernel_rfl) (by simp) (AllReadyH.cons rfl (fun K hK => ?_) AllReadyH.nil)
          go_simp
          refine hK.out _ _ (Box.alloc hx81 _) (fun _ => ?_); clear hK K
          refine F_own0 (F := fun W => wpAnyH _ _ _ _ _ _ _ _ W) ?_
          intro W82 nw82 hb82
          have lo82 : ∀ g, (some W81.heap.size : Option Nat) = some g → w1.heap.size ≤ g := fun g hg => by cases hg; exact Below.size hB81
          have ap82bx : Apart (some W0.heap.size) (some W81.heap.size) := Apart.new (Box.lts bx_81)
          have ap82o2 : Apart (some W69.heap.size) (some W81.heap.size) := Apart.new (fun g hg => (World.ownsRow.lt nw81 g hg).2)
          have hB82 := below_thru hB81 hb82
          have hx82 := Box.below HX1.out hB82
          have bx_82 := Box.below bx_81 hb82
          have o2_82 := own_below nw81 hb82
          refine wpAnyH_ready (rs := [5]) (by kernel_rfl) (by simp) (AllReadyH.cons rfl (fun K hK => ?_) AllReadyH.nil)
          refine step_append_atd 31 rfl rfl _ _ 28 (by rfl) 0 5 ti (.int .u8 0) 1 .u8 Tryd.underlying28 hin hz0 hz1 hz2 rfl _ [] (rs) _ (by rfl) (by rfl) nw82 (IsL.below I0.out hB82) (by unfold maxLen; simp <;> omega) (by simp <;> omega) (Nat.zero_le _) ?_
          intro v83 W83 nq83 hg83 hat83
          have nw83 : W83.ownsRow 0 5 1 v83 (rs).length ((rs).map (Value.int .u8)) := nq83
          clear nq83
          obtain ⟨s83, c83, rfl⟩ : ∃ a c, v83 = .slice a (rs).length c := own_len nw83
          have lo83 : ∀ g, (Value.slice s83 (rs).length c83).ownBlock = some g → w1.heap.size ≤ g := lo_app hat83 lo82 (Below.size hB82)
          have hB83 : Below w1.heap.size w1 W83 := Below.grown hB82 hg83 (Below.size hB82) lo82
          have hx83 := Box.below HX1.out hB83
          have bx_83 := Box.grown bx_82 hg83 (Apart.symm ap82bx)
          have ap83bx : Apart (Value.slice s83 (rs).length c83).ownBlock (some W0.heap.size) := Apart.app hat83 (Apart.symm ap82bx) (Box.lts bx_82)
          have o2_83 := World.ownsRow.kept o2_82 hg83 (Apart.ne ap82o2)
          have ap83o2 : Apart (Value.slice s83 (rs).length c83).ownBlock (some W69.heap.size) := Apart.app hat83 (Apart.symm ap82o2) (fun g hg => (World.ownsRow.lt o2_82 g hg).2)
          refine hK.out _ _ (hx83) (fun _ => ?_); clear hK K
          try simp only [Act.put, List.setIfInBounds_toArray, List.set_cons_zero, List.set_cons_succ]
          refine takeH 8 34 (v := .agg (hashV T (.slice s83 rs.length c83) n).toArray) rfl (by rfl) (by kernel_rfl) (by kernel_rfl) (by kernel_rfl) (fun _ _ _ h => h) (Or.inl ⟨by rfl, ?_⟩) (hx83) ?_
          · intro wq hSq
            exact exec_build3 _ _ _ rfl T _ _ _ n rfl rfl rfl wq
          try simp only [Act.put, List.setIfInBounds_toArray, List.set_cons_zero, List.set_cons_succ]
          refine wpAnyH_ready (rs := [11]) (by kernel_rfl) (by simp) (AllReadyH.cons rfl (fun K hK => ?_) AllReadyH.nil)
          refine step_append_atd 37 rfl rfl _ _ 28 (by rfl) 0 5 ti (.int .u8 0) 1 .u8 Tryd.underlying28 hin hz0 hz1 hz2 rfl _ [] (xs) _ (by rfl) (by rfl) o2_83 (IsL.below I1.out hB83) (by unfold maxLen; simp <;> omega) (by simp <;> omega) (Nat.zero_le _) ?_
          intro v84 W84 nq84 hg84 hat84
          have nw84 : W84.ownsRow 0 5 1 v84 (xs).length ((xs).map (Value.int .u8)) := nq84
          clear nq84
          obtain ⟨s84, c84, rfl⟩ : ∃ a c, v84 = .slice a (xs).length c := own_len nw84
          have lo84 : ∀ g, (Value.slice s84 (xs).length c84).ownBlock = some g → w1.heap.size ≤ g := lo_app hat84 lo81 (Below.size hB83)
          have hB84 : Below w1.heap.size w1 W84 := Below.grown hB83 hg84 (Below.size hB83) lo81
          have hx84 := Box.below HX1.out hB84
          have bx_84 := Box.grown bx_83 hg84 (Apart.symm ap81bx)
          have ap84bx : Apart (Value.slice s84 (xs).length c84).ownBlock (some W0.heap.size) := Apart.app hat84 (Apart.symm ap81bx) (Box.lts bx_83)
          have o1_84 := World.ownsRow.kept nw83 hg84 (Apart.ne ap83o2)
          have ap84o1 : Apart (Value.slice s84 (xs).length c84).ownBlock ((Value.slice s83 (rs).length c83).ownBlock) := Apart.app hat84 (Apart.symm ap83o2) (fun g hg => (World.ownsRow.lt nw83 g hg).2)
          refine hK.out _ _ (hx84) (fun _ => ?_); clear hK K
          try simp only [Act.put, List.setIfInBounds_toArray, List.set_cons_zero, List.set_cons_succ]
          refine wpAnyH_ready (rs := [13]) (by kernel_rfl) (by simp) (AllReadyH.cons rfl (fun K hK => ?_) AllReadyH.nil)
          refine step_store_box0 (cs := hashV T (.slice s83 rs.length c83) n) rfl rfl _ _ _ rfl bx_84 rfl rfl size10 rfl (hash_one _ _ _ _ _) ?_
          intro W85 hW85
          have hB85 : Below w1.heap.size w1 W85 := hW85.below _ _ (lo69 _ rfl) hB84
          have hx85 := Box.below HX1.out hB85
          have o1_85 := own_stored o1_84 hW85 ap83bx
          have o2_85 := own_stored nw84 hW85 ap84bx
          refine hK.out _ _ (hx85) (fun _ => ?_); clear hK K
          refine takeH 14 6 (v := ?vw14_86) rfl (by rfl) (by kernel_rfl) (by kernel_rfl) (by kernel_rfl) (fun _ _ _ h => h) (Or.inl ⟨by rfl, ?_⟩) (hx85) ?_
          rotate_left
          · intro wq hSq
            go_simp
            exact rfl
          try simp only [Act.put, List.setIfInBounds_toArray, List.set_cons_zero, List.set_cons_succ]
          refine wpAnyH_done (by kernel_rfl) ?_ _
          go_wp2_with fail
          go_meet
          exact ⟨_, s83, s84, c83, c84, rfl, rfl, hW85.box, o1_85, o2_85, lo83, lo84, lo69 _ rfl, ap83bx, ap84bx, (Apart.symm ap84o1), hB85⟩
    case rest =>
      obtain ⟨b5, sO, sB, cO, cB, rfl, rfl, hx5, ownO, ownB, loO, loB, lo5, apO, apB, apOB, hB⟩ := hcut
      obtain ⟨W3, rfl⟩ : ∃ u : World, u = wc := ⟨_, rfl⟩
      have JO := Lib.hid (show IsL W3 .u8 (.slice sO rs.length cO) rs from IsL.own ownO rfl)
      have JB := Lib.hid (show IsL W3 .u8 (.slice sB xs.length cB) xs from IsL.own ownB rfl)
      have OW := Lib.hid ownO
      have PW := Lib.hid ownB
      have LOO := Lib.hid loO
      have LOB := Lib.hid loB
      have APO := Lib.hid apO
      have APB := Lib.hid apB
      have APOB := Lib.hid apOB
      have hBw := below_thru HB1.out hB
      have hx2 := Box.below HX1.out hB
      have z5 := hx5.lt
      have LTO := Lib.hid (show ∀ g, (Value.slice sO rs.length cO).ownBlock = some g → g < W3.heap.size from fun g hg => (World.ownsRow.lt ownO g hg).2)
      have LTB := Lib.hid (show ∀ g, (Value.slice sB xs.length cB).ownBlock = some g → g < W3.heap.size from fun g hg => (World.ownsRow.lt ownB g hg).2)
      have szs : W3.heap.size ≤ W3.heap.size := Nat.le_refl _
      clear ownO ownB loO loB apO apB apOB hB hin hz0 hz1 hz2
      go_wp2_with (refine wpList_load_box rfl _ _ rfl hx5 rfl Tryd.underlying36 rfl size10 ?_)
      refine (write_any2 _ hn JO JB bO bX (Lib.hid (hL.out.below hBw)) ho).mono ?_
      rintro e w1_ ⟨sa, ca, rfl, ia, ra, hb⟩
      have RA := Lib.hid (fun g hg => (ra g hg).1)
      have IA := Lib.hid ia
      clear ra ia
      have x22 := Box.below hx2 hb
      have x52 := Box.below hx5 hb
      have O2 := Lib.hid (IsL.below (Hid.out JO) hb)
      have P2 := Lib.hid (IsL.below (Hid.out JB) hb)
      have B2 : Below w.heap.size w _ := below_thru hBw hb
      have OW2 := Lib.hid (own_below (Hid.out OW) hb)
      have PW2 := Lib.hid (own_below (Hid.out PW) hb)
      have S2 : W3.heap.size ≤ _ := Nat.le_trans szs (Below.size hb)
      clear hx2 hx5 JO JB hBw OW PW szs
      clear hb
      have hs3 := Below.size B2
      have lxa := S2
      go_upto_region 5 with (refine wpList_store_box (cs := hashV Tw (.slice sa zs.length ca) m) rfl _ _ _ rfl (Box.newc (l := zero10) rfl rfl) rfl rfl size10 rfl (hash_one _ _ _ _ _) ?_; intro V3 hV3)
      have hN3 := hV3.below _ _ (Nat.le_refl _) ((Below.refl _ _).alloc (Nat.le_refl _) _)
      have xa3 := hV3.box
      clear hV3
      have x24 := Box.below x22 hN3
      have x54 := Box.below x52 hN3
      have O4 := Lib.hid (IsL.below (Hid.out O2) hN3)
      have P4 := Lib.hid (IsL.below (Hid.out P2) hN3)
      have B4 : Below w.heap.size w _ := below_thru B2 hN3
      have OW4 := Lib.hid (own_below (Hid.out OW2) hN3)
      have PW4 := Lib.hid (own_below (Hid.out PW2) hN3)
      have S4 : W3.heap.size ≤ _ := Nat.le_trans S2 (Below.size hN3)
      have A4 := Lib.hid (IsL.below (Hid.out IA) hN3)
      clear x22 x52 O2 P2 B2 OW2 PW2 S2 IA
      clear hN3 hs3
      go_wp2_with (refine wpList_load_box rfl _ _ rfl x24 rfl Tryd.underlying36 rfl size10 ?_)
      refine (rwrite_any2 _ hn (Lib.hid (IsL.below i0.out B4)) (Lib.hid (IsL.below i1.out B4)) bO bX ho).mono ?_
      rintro e w5_ ⟨sc, cc, rfl, ic, rc, hb⟩
      have RC := Lib.hid (show ∀ g, (Value.slice sc zs.length cc).ownBlock = some g → W3.heap.size ≤ g from fun g hg => Nat.le_trans S4 (rc g hg).1)
      have IC := Lib.hid ic
      clear rc ic
      have x26 := Box.below x24 hb
      have x56 := Box.below x54 hb
      have O6 := Lib.hid (IsL.below (Hid.out O4) hb)
      have P6 := Lib.hid (IsL.below (Hid.out P4) hb)
      have B6 : Below w.heap.size w _ := below_thru B4 hb
      have OW6 := Lib.hid (own_below (Hid.out OW4) hb)
      have PW6 := Lib.hid (own_below (Hid.out PW4) hb)
      have S6 : W3.heap.size ≤ _ := Nat.le_trans S4 (Below.size hb)
      have A6 := Lib.hid (IsL.below (Hid.out A4) hb)
      have xa6 := Box.below xa3 hb
      clear x24 x54 O4 P4 B4 OW4 PW4 S4 A4 xa3
      clear hb
      have hs7 := Below.size B6
      have lxc := S6
      go_upto_region 6 with (refine wpList_store_box (cs := hashV Tw (.slice sc zs.length cc) m) rfl _ _ _ rfl (Box.newc (l := zero10) rfl rfl) rfl rfl size10 rfl (hash_one _ _ _ _ _) ?_; intro V7 hV7)
      have hN7 := hV7.below _ _ (Nat.le_refl _) ((Below.refl _ _).alloc (Nat.le_refl _) _)
      have xc7 := hV7.box
      clear hV7
      have x28 := Box.below x26 hN7
      have x58 := Box.below x56 hN7
      have O8 := Lib.hid (IsL.below (Hid.out O6) hN7)
      have P8 := Lib.hid (IsL.below (Hid.out P6) hN7)
      have B8 : Below w.heap.size w _ := below_thru B6 hN7
      have OW8 := Lib.hid (own_below (Hid.out OW6) hN7)
      have PW8 := Lib.hid (own_below (Hid.out PW6) hN7)
      have S8 : W3.heap.size ≤ _ := Nat.le_trans S6 (Below.size hN7)
      have A8 := Lib.hid (IsL.below (Hid.out A6) hN7)
      have xa8 := Box.below xa6 hN7
      have C8 := Lib.hid (IsL.below (Hid.out IC) hN7)
      clear x26 x56 O6 P6 B6 OW6 PW6 S6 A6 xa6 IC
      clear hN7 hs7
      go_wp2_with (refine wpList_load_box rfl _ _ rfl x58 rfl Tryd.underlying36 rfl size10 ?_)
      refine (finish_any2 _ hn O8 bO (Lib.hid (hL.out.below B8)) hf).mono ?_
      rintro e w9_ ⟨rfl, hb⟩
      have x210 := Box.below x28 hb
      have x510 := Box.below x58 hb
      have O10 := Lib.hid (IsL.below (Hid.out O8) hb)
      have P10 := Lib.hid (IsL.below (Hid.out P8) hb)
      have B10 : Below w.heap.size w _ := below_thru B8 hb
      have OW10 := Lib.hid (own_below (Hid.out OW8) hb)
      have PW10 := Lib.hid (own_below (Hid.out PW8) hb)
      have S10 : W3.heap.size ≤ _ := Nat.le_trans S8 (Below.size hb)
      have A10 := Lib.hid (IsL.below (Hid.out A8) hb)
      have xa10 := Box.below xa8 hb
      have C10 := Lib.hid (IsL.below (Hid.out C8) hb)
      have xc10 := Box.below xc7 hb
      clear x28 x58 O8 P8 B8 OW8 PW8 S8 A8 xa8 C8 xc7
      clear hb
      have hs11 := Below.size B10
      have lxd := S10
      go_upto_region 7 with (refine wpList_store_box (cs := D.map (Value.int .u8)) rfl _ _ _ rfl (Box.newc (l := zero32) rfl rfl) rfl rfl I32.out HLL.out (oneCell_ints _) ?_; intro V11 hV11)
      have hN11 := hV11.below _ _ (Nat.le_refl _) ((Below.refl _ _).alloc (Nat.le_refl _) _)
      have xd11 := hV11.box
      clear hV11
      have x212 := Box.below x210 hN11
      have x512 := Box.below x510 hN11
      have O12 := Lib.hid (IsL.below (Hid.out O10) hN11)
      have P12 := Lib.hid (IsL.below (Hid.out P10) hN11)
      have B12 : Below w.heap.size w _ := below_thru B10 hN11
      have OW12 := Lib.hid (own_below (Hid.out OW10) hN11)
      have PW12 := Lib.hid (own_below (Hid.out PW10) hN11)
      have S12 : W3.heap.size ≤ _ := Nat.le_trans S10 (Below.size hN11)
      have A12 := Lib.hid (IsL.below (Hid.out A10) hN11)
      have xa12 := Box.below xa10 hN11
      have C12 := Lib.hid (IsL.below (Hid.out C10) hN11)
      have xc12 := Box.below xc10 hN11
      clear x210 x510 O10 P10 B10 OW10 PW10 S10 A10 xa10 C10 xc10
      clear hN11 hs11
      go_wp2_with (refine wpList_load_box rfl _ _ rfl x212 rfl Tryd.underlying36 rfl size10 ?_)
      refine (rfinish_any2 _ hn (Lib.hid (IsL.below i0.out B12)) bO hf).mono ?_
      rintro e w13_ ⟨rfl, hb⟩
      have x214 := Box.below x212 hb
      have x514 := Box.below x512 hb
      have O14 := Lib.hid (IsL.below (Hid.out O12) hb)
      have P14 := Lib.hid (IsL.below (Hid.out P12) hb)
      have B14 : Below w.heap.size w _ := below_thru B12 hb
      have OW14 := Lib.hid (own_below (Hid.out OW12) hb)
      have PW14 := Lib.hid (own_below (Hid.out PW12) hb)
      have S14 : W3.heap.size ≤ _ := Nat.le_trans S12 (Below.size hb)
      have A14 := Lib.hid (IsL.below (Hid.out A12) hb)
      have xa14 := Box.below xa12 hb
      have C14 := Lib.hid (IsL.below (Hid.out C12) hb)
      have xc14 := Box.below xc12 hb
      have xd14 := Box.below xd11 hb
      clear x212 x512 O12 P12 B12 OW12 PW12 S12 A12 xa12 C12 xc12 xd11
      clear hb
      have hs15 := Below.size B14
      have lxg := S14
      go_upto_region 8 with (refine wpList_store_box (cs := D.map (Value.int .u8)) rfl _ _ _ rfl (Box.newc (l := zero32) rfl rfl) rfl rfl I32.out HLL.out (oneCell_ints _) ?_; intro V15 hV15)
      have hN15 := hV15.below _ _ (Nat.le_refl _) ((Below.refl _ _).alloc (Nat.le_refl _) _)
      have xg15 := hV15.box
      clear hV15
      have x216 := Box.below x214 hN15
      have x516 := Box.below x514 hN15
      have O16 := Lib.hid (IsL.below (Hid.out O14) hN15)
      have P16 := Lib.hid (IsL.below (Hid.out P14) hN15)
      have B16 : Below w.heap.size w _ := below_thru B14 hN15
      have OW16 := Lib.hid (own_below (Hid.out OW14) hN15)
      have PW16 := Lib.hid (own_below (Hid.out PW14) hN15)
      have S16 : W3.heap.size ≤ _ := Nat.le_trans S14 (Below.size hN15)
      have A16 := Lib.hid (IsL.below (Hid.out A14) hN15)
      have xa16 := Box.below xa14 hN15
      have C16 := Lib.hid (IsL.below (Hid.out C14) hN15)
      have xc16 := Box.below xc14 hN15
      have xd16 := Box.below xd14 hN15
      clear x214 x514 O14 P14 B14 OW14 PW14 S14 A14 xa14 C14 xc14 xd14
      clear hN15 hs15
      go_wp2_with (first | (refine wpList_load_box rfl _ _ rfl x516 rfl Tryd.underlying36 rfl size10 ?_) | (refine wpList_load_box rfl _ _ rfl x216 rfl Tryd.underlying36 rfl size10 ?_))
      refine (same_tt (T := T) (rs := rs) (n := n) _ ⟨sO, cO, rfl, Hid.out O16⟩ ⟨a0, c0, rfl, IsL.below i0.out B16⟩).mono ?_
      rintro e wS ⟨rfl, hb⟩
      have x217 := Box.below x216 hb
      have x517 := Box.below x516 hb
      have O17 := Lib.hid (IsL.below (Hid.out O16) hb)
      have P17 := Lib.hid (IsL.below (Hid.out P16) hb)
      have B17 : Below w.heap.size w _ := below_thru B16 hb
      have OW17 := Lib.hid (own_below (Hid.out OW16) hb)
      have PW17 := Lib.hid (own_below (Hid.out PW16) hb)
      have S17 : W3.heap.size ≤ _ := Nat.le_trans S16 (Below.size hb)
      have A17 := Lib.hid (IsL.below (Hid.out A16) hb)
      have xa17 := Box.below xa16 hb
      have C17 := Lib.hid (IsL.below (Hid.out C16) hb)
      have xc17 := Box.below xc16 hb
      have xd17 := Box.below xd16 hb
      have xg17 := Box.below xg15 hb
      clear x216 x516 O16 P16 B16 OW16 PW16 S16 A16 xa16 C16 xc16 xd16 xg15
      clear hb
      go_wp2_with fail
      refine (sameb_tt _ (Hid.out P17) (IsL.below i1.out B17)).mono ?_
      rintro e wT ⟨rfl, hb⟩
      have x218 := Box.below x217 hb
      have x518 := Box.below x517 hb
      have O18 := Lib.hid (IsL.below (Hid.out O17) hb)
      have P18 := Lib.hid (IsL.below (Hid.out P17) hb)
      have B18 : Below w.heap.size w _ := below_thru B17 hb
      have OW18 := Lib.hid (own_below (Hid.out OW17) hb)
      have PW18 := Lib.hid (own_below (Hid.out PW17) hb)
      have S18 : W3.heap.size ≤ _ := Nat.le_trans S17 (Below.size hb)
      have A18 := Lib.hid (IsL.below (Hid.out A17) hb)
      have xa18 := Box.below xa17 hb
      have C18 := Lib.hid (IsL.below (Hid.out C17) hb)
      have xc18 := Box.below xc17 hb
      have xd18 := Box.below xd17 hb
      have xg18 := Box.below xg17 hb
      clear x217 x517 O17 P17 B17 OW17 PW17 S17 A17 xa17 C17 xc17 xd17 xg17
      clear hb
      clear O18
      clear P18
      clear x218
      clear S18
      go_wp2_with fail
      go_loopw [15] (fun i wr => ∃ k : Nat, k ≤ xs.length ∧ i = .int .i64 k ∧ wT.grownBy wr (Value.slice sB xs.length cB).ownBlock ∧ ∃ ys : List Int, ys.length = xs.length ∧ wr.ownsRow 0 5 1 (.slice sB xs.length cB) xs.length (ys.map (Value.int .u8))) (fun i _ => xs.length - (intOf i).toNat)
      case atStart => exact ⟨0, Nat.zero_le _, rfl, World.grownBy.refl _ _, xs, rfl, Hid.out PW18⟩
      case round =>
        obtain ⟨k, hk, rfl, hgr, ys, hyl, how⟩ := hrel
        by_cases hlt : k < xs.length
        · obtain ⟨g, rfl⟩ : ∃ g, sB = some ⟨g, 0, none⟩ := own_some how (by omega)
          have c0' := how.cellAt k (by omega)
          rw [nth_get k (by omega)] at c0'
          have f0' := how.frozenAt k
          have st := fun y2 => own_setI how k y2
          have HS := Lib.hid st
          have HG := Lib.hid hgr
          clear st hgr how
          generalize nth ys k = y at *
          go_wp2_with fail
          go_roundw
          case rel => exact ⟨k + 1, by omega, by go_num, grownBy_trans HG.out (HS.out _).2, _, by rw [List.length_set]; exact hyl, (HS.out _).1⟩
          case measure => simp [intOf]; omega
        · obtain rfl : k = xs.length := by omega
          clear PW18 how hlt hk
          have x519 := Box.grown x518 hgr APB.out
          have B19 : Below w.heap.size w _ := Below.grown B18 hgr (Below.size B18) (fun g hg => by have := LOB.out g hg; omega)
          have OW19 := Lib.hid (World.ownsRow.kept (Hid.out OW18) hgr (Apart.ne APOB.out))
          have A19 := Lib.hid (IsL.grown (Hid.out A18) hgr (fun g hg e => by have := LTB.out g hg; have := RA.out g e; omega))
          have xa19 := Box.grown xa18 hgr (fun g hg e => by cases e; have := LTB.out _ hg; omega)
          have C19 := Lib.hid (IsL.grown (Hid.out C18) hgr (fun g hg e => by have := LTB.out g hg; have := RC.out g e; omega))
          have xc19 := Box.grown xc18 hgr (fun g hg e => by cases e; have := LTB.out _ hg; omega)
          have xd19 := Box.grown xd18 hgr (fun g hg e => by cases e; have := LTB.out _ hg; omega)
          have xg19 := Box.grown xg18 hgr (fun g hg e => by cases e; have := LTB.out _ hg; omega)
          clear x518 B18 OW18 A18 xa18 C18 xc18 xd18 xg18
          clear hgr
          obtain ⟨WM, rfl⟩ : ∃ u : World, u = wr := ⟨_, rfl⟩
          go_upto_region 14 with fail
          go_wp2_with fail
          go_loopw [16] (fun i wr => ∃ k : Nat, k ≤ rs.length ∧ i = .int .i64 k ∧ WM.grownBy wr (Value.slice sO rs.length cO).ownBlock ∧ ∃ ys : List Int, ys.length = rs.length ∧ wr.ownsRow 0 5 1 (.slice sO rs.length cO) rs.length (ys.map (Value.int .u8))) (fun i _ => rs.length - (intOf i).toNat)
          case atStart => exact ⟨0, Nat.zero_le _, rfl, World.grownBy.refl _ _, rs, rfl, Hid.out OW19⟩
          case round =>
            obtain ⟨k, hk, rfl, hgr, ys, hyl, how⟩ := hrel
            have c8 : wr.cell? ⟨b5, 8, none⟩ = some (.slice sO rs.length cO) := (Box.grown x519 hgr APO.out).c 8 _ rfl
            by_cases hlt : k < rs.length
            · obtain ⟨g, rfl⟩ : ∃ g, sO = some ⟨g, 0, none⟩ := own_some how (by omega)
              have c0' := how.cellAt k (by omega)
              rw [nth_get k (by omega)] at c0'
              have f0' := how.frozenAt k
              have st := fun y2 => own_setI how k y2
              have HS := Lib.hid st
              have HG := Lib.hid hgr
              clear st hgr how
              generalize nth ys k = y at *
              go_wp2_with fail
              go_roundw
              case rel => exact ⟨k + 1, by omega, by go_num, grownBy_trans HG.out (HS.out _).2, _, by rw [List.length_set]; exact hyl, (HS.out _).1⟩
              case measure => simp [intOf]; omega
            · obtain rfl : k = rs.length := by omega
              have c8' := c8
              clear c8'
              clear OW19 how hlt hk
              have x520 := Box.grown x519 hgr APO.out
              have B20 : Below w.heap.size w _ := Below.grown B19 hgr (Below.size B19) (fun g hg => by have := LOO.out g hg; omega)
              have A20 := Lib.hid (IsL.grown (Hid.out A19) hgr (fun g hg e => by have := LTO.out g hg; have := RA.out g e; omega))
              have xa20 := Box.grown xa19 hgr (fun g hg e => by cases e; have := LTO.out _ hg; omega)
              have C20 := Lib.hid (IsL.grown (Hid.out C19) hgr (fun g hg e => by have := LTO.out g hg; have := RC.out g e; omega))
              have xc20 := Box.grown xc19 hgr (fun g hg e => by cases e; have := LTO.out _ hg; omega)
              have xd20 := Box.grown xd19 hgr (fun g hg e => by cases e; have := LTO.out _ hg; omega)
              have xg20 := Box.grown xg19 hgr (fun g hg e => by cases e; have := LTO.out _ hg; omega)
              clear x519 B19 A19 xa19 C19 xc19 xd19 xg19
              clear hgr
              obtain ⟨WN, rfl⟩ : ∃ u : World, u = wr := ⟨_, rfl⟩
              go_wp2_with fail
              clear c8
              refine (hs1 _ (hL.out.below B20)).mono ?_
              rintro e wP ⟨rfl, hb⟩
              have x521 := Box.below x520 hb
              have B21 : Below w.heap.size w _ := below_thru B20 hb
              have A21 := Lib.hid (IsL.below (Hid.out A20) hb)
              have xa21 := Box.below xa20 hb
              have C21 := Lib.hid (IsL.below (Hid.out C20) hb)
              have xc21 := Box.below xc20 hb
              have xd21 := Box.below xd20 hb
              have xg21 := Box.below xg20 hb
              clear x520 B20 A20 xa20 C20 xc20 xd20 xg20
              clear hb
              go_wp2_with fail
              refine (hs2 _).mono ?_
              rintro e wQ ⟨rfl, hb⟩
              have x522 := Box.below x521 hb
              have B22 : Below w.heap.size w _ := below_thru B21 hb
              have A22 := Lib.hid (IsL.below (Hid.out A21) hb)
              have xa22 := Box.below xa21 hb
              have C22 := Lib.hid (IsL.below (Hid.out C21) hb)
              have xc22 := Box.below xc21 hb
              have xd22 := Box.below xd21 hb
              have xg22 := Box.below xg21 hb
              clear x521 B21 A21 xa21 C21 xc21 xd21 xg21
              clear hb
              go_wp2_with fail
              refine (same_tt (T := F) (rs := []) (n := 0) _ ⟨none, 0, rfl, IsL.none⟩ ⟨none, 0, rfl, IsL.none⟩).mono ?_
              rintro e wR ⟨rfl, hb⟩
              have x523 := Box.below x522 hb
              have B23 : Below w.heap.size w _ := below_thru B22 hb
              have A23 := Lib.hid (IsL.below (Hid.out A22) hb)
              have xa23 := Box.below xa22 hb
              have C23 := Lib.hid (IsL.below (Hid.out C22) hb)
              have xc23 := Box.below xc22 hb
              have xd23 := Box.below xd22 hb
              have xg23 := Box.below xg22 hb
              clear x522 B22 A22 xa22 C22 xc22 xd22 xg22
              clear hb
              have hEq : ∀ W, (Op.equalIn 10000 24 (.agg (D.map (Value.int .u8)).toArray) (.agg (D.map (Value.int .u8)).toArray)).run Tryd.prog W = .ok true W := hEd.out
              go_wp2_with (first | (refine wpList_load_boxw rfl _ _ rfl xa23 rfl Tryd.underlying36 rfl size10 ?_) | (refine wpList_load_boxw rfl _ _ rfl xc23 rfl Tryd.underlying36 rfl size10 ?_) | (refine wpList_load_boxw rfl _ _ rfl xd23 rfl Tryd.underlying24 rfl I32.out ?_) | (refine wpList_load_boxw rfl _ _ rfl xg23 rfl Tryd.underlying24 rfl I32.out ?_))
              refine (same_tt (T := Tw) (rs := zs) (n := m) _ ⟨sa, ca, rfl, Hid.out A23⟩ ⟨sc, cc, rfl, Hid.out C23⟩).mono ?_
              rintro e wU ⟨rfl, hb⟩
              have x524 := Box.below x523 hb
              have B24 : Below w.heap.size w _ := below_thru B23 hb
              have A24 := Lib.hid (IsL.below (Hid.out A23) hb)
              have xa24 := Box.below xa23 hb
              have C24 := Lib.hid (IsL.below (Hid.out C23) hb)
              have xc24 := Box.below xc23 hb
              have xd24 := Box.below xd23 hb
              have xg24 := Box.below xg23 hb
              clear x523 B23 A23 xa23 C23 xc23 xd23 xg23
              clear hb
              go_wp2_with (first | (refine wpList_load_boxw rfl _ _ rfl xa24 rfl Tryd.underlying36 rfl size10 ?_) | (refine wpList_load_boxw rfl _ _ rfl xc24 rfl Tryd.underlying36 rfl size10 ?_) | (refine wpList_load_boxw rfl _ _ rfl xd24 rfl Tryd.underlying24 rfl I32.out ?_) | (refine wpList_load_boxw rfl _ _ rfl xg24 rfl Tryd.underlying24 rfl I32.out ?_))
              go_returns
              exact ⟨rfl, B24⟩

theorem writes5_any {T : W8} {n : Int} {a0 a1 : Option Addr} {c0 c1 : Nat} {rs xs : List Int} {w : World} (i0 : IsL w .u8 (.slice a0 rs.length c0) rs) (b0 : bytesL rs) (h1 : -9223372036854775808 ≤ n) (h2 : n ≤ 9223372036854775807) (i1 : IsL w .u8 (.slice a1 xs.length c1) xs) (b1 : bytesL xs) (hL : LaidS w) :
    Calls Tryd.prog 5 #[.agg (hashV T (.slice a0 rs.length c0) n).toArray, .slice a1 xs.length c1] w fun e w' => e = .returned (.bool true) ∧ Below w.heap.size w w' := by
  have m0 := i0.room
  have m1 := i1.room
  by_cases h : 3000 < xs.length ∨ 200 < rs.length
  · exact writes5_long w h (by omega) (by omega)
  · rcases ho : writeOut T rs xs n with ⟨Tw, zs, m, c⟩
    rcases hf : finishOut T rs n with ⟨D, e0⟩
    exact writes5_main w (by omega) (by omega) ⟨h1, h2⟩ (Lib.hid i0) (Lib.hid b0) (Lib.hid i1) (Lib.hid b1) (Lib.hid hL) (Lib.hid ho) (Lib.hid hf)

end Go.Proofs.YtlddlkapabmoeaaDoor
