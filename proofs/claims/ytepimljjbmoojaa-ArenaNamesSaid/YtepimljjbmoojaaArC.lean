/-
  Package arena, walked: New.
-/
import Derived.Test.YtepimljjbmoojaaArB
namespace Go.Proofs.Ytepimljjbmoojaa
open Go.RowKit

/-- Two results behind a struct in a box. -/
theorem results_box3 {P : Program} {w : World} {fn : Func} {p q r : Tmp} {ty : TypeId} (h : fn.results = #[.cell p ty, .tmp q, .tmp r]) {tmps : Array Value} {b : Nat} {cs : List Value} {u v : Value} (hb : Box w b cs)
    (hp : tmps.getD p undef = .pointer (some ⟨b, 0, none⟩)) (hq : tmps.getD q undef = u) (hr : tmps.getD r undef = v) {d : TypeDesc} (hu : P.underlying ty = some d) (hd : d.isRow = true) (hi : (P.info? ty).map (·.size) = some cs.length) :
    (results fn tmps).run P w = .ok (.tuple #[.agg cs.toArray, u, v]) w := by
  have hp' : tmps[p]?.getD undef = .pointer (some ⟨b, 0, none⟩) := by simpa using hp
  have hq' : tmps[q]?.getD undef = u := by simpa using hq
  have hr' : tmps[r]?.getD undef = v := by simpa using hr
  simp [results, h, hp', hq', hr', asAddr, run_var_box hb ty hu hd hi]
/-- How far New has come. -/
def nk (n k : Nat) : List Int := (List.range n).map fun i => if i < k then ((i + 1 : Nat) : Int) else 0
theorem nk_len (n k : Nat) : (nk n k).length = n := by simp [nk]
theorem nk_set {n k : Nat} : nk n (k + 1) = (nk n k).set k ((k + 1 : Nat) : Int) := by
  apply List.ext_getElem?
  intro j
  rw [List.getElem?_set]
  by_cases hj : j < n
  · by_cases e : k = j
    · subst e
      simp [nk, hj]
    · rw [if_neg e]
      simp [nk, hj]
      by_cases q : j < k
      · rw [if_pos (by omega), if_pos q]
      · rw [if_neg (by omega), if_neg q]
  · by_cases e : k = j
    · subst e
      simp [nk, hj]
    · rw [if_neg e]
      simp [nk, hj]
theorem nk_end {m : Nat} : (newA (m + 1)).nx = (nk (m + 1) (m + 1)).set m (-1) := by
  apply List.ext_getElem?
  intro j
  rw [List.getElem?_set]
  by_cases hj : j < m + 1
  · rw [newA_at hj]
    by_cases e : m = j
    · subst e
      simp [nk, nextN]
    · rw [if_neg e]
      simp [nk, hj, nextN]
      omega
  · rw [List.getElem?_eq_none (by simp [newA]; omega)]
    by_cases e : m = j
    · omega
    · rw [if_neg e]
      simp [nk, hj]
theorem nk_zero (n : Nat) : madeCells #[.int .i64 0] n = ((nk n 0).map (Value.int .i64)).toArray := by
  apply Array.ext
  · simp [madeCells, nk]
  · intro i h1 h2
    simp [madeCells, nk, Nat.mod_one]
theorem make_ints (m : Nat) (hm : m ≤ 1000000) (w : World) : (Instr.makeSlice 22 (.int .i64 (m : Int)) (.int .i64 (m : Int))).run Try.prog w = .ok (.slice (some ⟨w.heap.size, 0, none⟩) m m) (w.alloc (.cells ((nk m 0).map (Value.int .i64)).toArray 3)) := by
  obtain ⟨ti, hin, hz0, hz1, hz2⟩ := info_parts info_in
  rw [run_make (P := Try.prog) w 22 3 ti (.int .i64 0) Try.underlying22 hin hz0 .i64 .i64 m m (by omega) (by omega) (by rw [hz2]; omega) (by omega), hz1]
  simp only [Int.toNat_natCast, Nat.mul_one]
  rw [← nk_zero]
  rfl
theorem mark_new (n : Nat) : mark n [] = (newA n).us.map Value.bool := by
  apply List.ext_getElem?
  intro j
  by_cases hj : j < n
  · rw [mark_at hj]
    simp [newA, hj]
  · rw [List.getElem?_eq_none (by rw [mark_len]; omega), List.getElem?_eq_none (by simp [newA]; omega)]
theorem set_ints (xs : List Int) (i : Nat) (x : Int) : (xs.set i x).map (Value.int .i64) = (xs.map (Value.int .i64)).set i (.int .i64 x) := by rw [List.map_set]
theorem set_bools (xs : List Bool) (i : Nat) (x : Bool) : (xs.set i x).map Value.bool = (xs.map Value.bool).set i (.bool x) := by rw [List.map_set]

set_option maxRecDepth 100000 in
set_option maxHeartbeats 6400000 in
theorem pnew_a {p : Int} (h : p < 1) (w : World) : Calls Try.prog 10 #[.int .i64 p] w fun e w' => ∃ v, e = .returned (.tuple #[v, .int .i64 2]) ∧ ResA Ar.zero w v w' := by
  have d0 : decide (p < 1) = true := decide_eq_true (by omega)
  have BI := fun W => build_ar0 W
  clear h
  go_enter Try.func10, Try.ntmps10
  go_upto_region 1 with fail
  refine F_gen (F := fun W => Code.wp _ _ _ _ W) (J := fun W => Box W (w.heap.size) (ar0) ∧ Below w.heap.size w W) (And.intro (Box.newc rfl rfl) (by go_grown)) ?_
  intro w0 ⟨e_r, hB0⟩
  have hs0 := hB0.size
  have x_r0 := e_r; clear e_r
  have lq := (x_r0).lt
  go_wp2_with (first | (refine wpList_build9 rfl 25 _ rfl (us := #[]) (by rfl) (BI _) ?_) | (refine wpList_store_box (cs := ar0) rfl _ _ _ rfl x_r0 rfl rfl size_ar0 rfl one_ar0 ?_; intro W99 hW99))
  exact bodyPost_ret (results_box2 Try.results10 hW99.box rfl rfl Try.underlying25 rfl size_ar0) rfl ⟨_, rfl, isA_zero _, fresh_zero _, hW99.below _ _ (by omega) hB0⟩

set_option maxRecDepth 100000 in
set_option maxHeartbeats 6400000 in
theorem pnew_b {p : Int} (h : 16 < p) (w : World) : Calls Try.prog 10 #[.int .i64 p] w fun e w' => ∃ v, e = .returned (.tuple #[v, .int .i64 2]) ∧ ResA Ar.zero w v w' := by
  have d0 : decide (p < 1) = false := decide_eq_false (by omega)
  have d1 : decide (16 < p) = true := decide_eq_true (by omega)
  have BI := fun W => build_ar0 W
  clear h
  go_enter Try.func10, Try.ntmps10
  go_upto_region 1 with fail
  refine F_gen (F := fun W => Code.wp _ _ _ _ W) (J := fun W => Box W (w.heap.size) (ar0) ∧ Below w.heap.size w W) (And.intro (Box.newc rfl rfl) (by go_grown)) ?_
  intro w0 ⟨e_r, hB0⟩
  have hs0 := hB0.size
  have x_r0 := e_r; clear e_r
  have lq := (x_r0).lt
  go_wp2_with (first | (refine wpList_build9 rfl 25 _ rfl (us := #[]) (by rfl) (BI _) ?_) | (refine wpList_store_box (cs := ar0) rfl _ _ _ rfl x_r0 rfl rfl size_ar0 rfl one_ar0 ?_; intro W99 hW99))
  exact bodyPost_ret (results_box2 Try.results10 hW99.box rfl rfl Try.underlying25 rfl size_ar0) rfl ⟨_, rfl, isA_zero _, fresh_zero _, hW99.below _ _ (by omega) hB0⟩

set_option maxRecDepth 100000 in
set_option maxHeartbeats 6400000 in
theorem pnew_c {n m : Nat} (hn : n = m + 1) (hm : n ≤ 16) (w : World) : Calls Try.prog 10 #[.int .i64 (n : Int)] w fun e w' => ∃ v, e = .returned (.tuple #[v, .int .i64 0]) ∧ ResA (newA n) w v w' := by
  have d0 : decide ((n : Int) < 1) = false := decide_eq_false (by omega); have d1 : decide (16 < (n : Int)) = false := decide_eq_false (by omega)
  have MI := fun W => make_ints n (by omega) W; have MB := fun W => make_bools n (by omega) W
  have HN := Lib.hid hn; have W2 : IntKind.i64.wrap ((n : Int) - 1) = (m : Int) := by rw [IntKind.wrap_i64]; omega
  have m0 : (0 : Int) ≤ (m : Int) := (by omega); have m1 : (m : Int) < (n : Int) := (by omega)
  clear hn
  go_enter Try.func10, Try.ntmps10
  go_upto_region 1 with fail
  refine F_gen (F := fun W => Code.wp _ _ _ _ W) (J := fun W => Box W (w.heap.size) (ar0) ∧ Below w.heap.size w W) (And.intro (Box.newc rfl rfl) (by go_grown)) ?_
  intro w0 ⟨e_r, hB0⟩
  have hs0 := hB0.size
  have x_r0 := e_r; clear e_r
  go_upto_region 3 with fail
  clear d0 d1
  go_cut [4] (fun p wx => ∃ (g h x : Nat), p = .pointer (some ⟨x, 0, none⟩) ∧ w.heap.size < g ∧ w.heap.size < h ∧ w.heap.size < x ∧ g ≠ h ∧ g ≠ x ∧ h ≠ x ∧ Box wx g ((nk n 0).map (Value.int .i64)) ∧ Box wx h (mark n []) ∧ Box wx x [.slice (some ⟨g, 0, none⟩) n n, .slice (some ⟨h, 0, none⟩) n n, .int .i64 0] ∧ Box wx w.heap.size ar0 ∧ Below w.heap.size w wx)
  case first =>
    refine wp_region_held_drew (S := fun W => Box W (w.heap.size) (ar0)) (by kernel_rfl) (x_r0).drew (fun _ => ?_)
    refine F_drew (F := fun W => wpAnyH _ _ _ _ _ _ _ _ W) ?_
    intro Ws0 hbs0
    clear hs0
    have x_r_s0 : Box Ws0 (w.heap.size) (ar0) := Box.below x_r0 hbs0
    have Bs0 := below_thru hB0 hbs0
    clear x_r0 hB0 hbs0
    refine takeH 0 13 (v := ?vs0_1) rfl (by rfl) (by kernel_rfl) (by kernel_rfl) (by kernel_rfl) (fun _ _ _ h => h) (Or.inl ⟨by rfl, ?_⟩) (x_r_s0) ?_
    rotate_left
    · intro wq hSq
      go_simp
      exact rfl
    try simp only [Act.put, List.setIfInBounds_toArray, List.set_cons_zero, List.set_cons_succ]
    refine takeH 2 15 (v := ?vs2_2) rfl (by rfl) (by kernel_rfl) (by kernel_rfl) (by kernel_rfl) (fun _ _ _ h => h) (Or.inl ⟨by rfl, ?_⟩) (x_r_s0) ?_
    rotate_left
    · intro wq hSq
      go_simp
      exact rfl
    try simp only [Act.put, List.setIfInBounds_toArray, List.set_cons_zero, List.set_cons_succ]
    refine wpAnyH_ready (rs := [1, 3, 5]) (by kernel_rfl) (by simp) (AllReadyH.cons rfl (fun K hK => ?_) (AllReadyH.cons rfl (fun K hK => ?_) (AllReadyH.cons rfl (fun K hK => ?_) AllReadyH.nil)))
    · skip
      go_simp
      have ql_g_r := (x_r_s0).lt
      have qs_g := Below.size Bs0
      refine hK.out _ _ (Box.alloc x_r_s0 _) (fun _ => ?_); clear hK K
      refine F_gen (F := fun W => wpAnyH _ _ _ _ _ _ _ _ W) (J := fun W => Box W (Ws0.heap.size) ((nk n 0).map (Value.int .i64)) ∧ Below Ws0.heap.size Ws0 W) (And.intro (Box.newc (l := (nk n 0).map (Value.int .i64)) rfl rfl) ((Below.refl _ _).alloc (Nat.le_refl _) _)) ?_
      intro Ws3 ⟨na_g_s3, hbs3⟩
      have x_r_s3 : Box Ws3 (w.heap.size) (ar0) := Box.below x_r_s0 hbs3
      have Bs3 := below_thru Bs0 hbs3
      clear x_r_s0 Bs0 hbs3
      obtain ⟨g, hg⟩ : ∃ b, Ws0.heap.size = b := ⟨_, rfl⟩
      rw [hg] at na_g_s3 ql_g_r qs_g ⊢
      clear hg
      refine wpAnyH_ready (rs := [3, 5]) (by kernel_rfl) (by simp) (AllReadyH.cons rfl (fun K hK => ?_) (AllReadyH.cons rfl (fun K hK => ?_) AllReadyH.nil))
      · skip
        go_simp
        have ql_h_r := (x_r_s3).lt
        have ql_h_g := (na_g_s3).lt
        have qs_h := Below.size Bs3
        refine hK.out _ _ (Box.alloc x_r_s3 _) (fun _ => ?_); clear hK K
        refine F_gen (F := fun W => wpAnyH _ _ _ _ _ _ _ _ W) (J := fun W => Box W (Ws3.heap.size) (mark n []) ∧ Below Ws3.heap.size Ws3 W) (And.intro (Box.newc (l := mark n []) rfl rfl) ((Below.refl _ _).alloc (Nat.le_refl _) _)) ?_
        intro Ws4 ⟨na_h_s4, hbs4⟩
        have x_r_s4 : Box Ws4 (w.heap.size) (ar0) := Box.below x_r_s3 hbs4
        have z_g_s4 : Box Ws4 (g) ((nk n 0).map (Value.int .i64)) := Box.below na_g_s3 hbs4
        have Bs4 := below_thru Bs3 hbs4
        clear x_r_s3 na_g_s3 Bs3 hbs4
        obtain ⟨h, hh⟩ : ∃ b, Ws3.heap.size = b := ⟨_, rfl⟩
        rw [hh] at na_h_s4 ql_h_r ql_h_g qs_h ⊢
        clear hh
        refine takeH 4 17 (v := ?vs4_5) rfl (by rfl) (by kernel_rfl) (by kernel_rfl) (by kernel_rfl) (fun _ _ _ h => h) (Or.inl ⟨by rfl, ?_⟩) (x_r_s4) ?_
        rotate_left
        · intro wq hSq
          go_simp
          exact rfl
        try simp only [Act.put, List.setIfInBounds_toArray, List.set_cons_zero, List.set_cons_succ]
        refine wpAnyH_ready (rs := [5]) (by kernel_rfl) (by simp) (AllReadyH.cons rfl (fun K hK => ?_) AllReadyH.nil)
        go_simp
        have ql_x_r := (x_r_s4).lt
        have ql_x_g := (z_g_s4).lt
        have ql_x_h := (na_h_s4).lt
        have qs_x := Below.size Bs4
        refine hK.out _ _ (Box.alloc x_r_s4 _) (fun _ => ?_); clear hK K
        refine F_gen (F := fun W => wpAnyH _ _ _ _ _ _ _ _ W) (J := fun W => Box W (Ws4.heap.size) (ar0) ∧ Below Ws4.heap.size Ws4 W) (And.intro (Box.newc (l := ar0) rfl rfl) ((Below.refl _ _).alloc (Nat.le_refl _) _)) ?_
        intro Ws6 ⟨na_x_s6, hbs6⟩
        have x_r_s6 : Box Ws6 (w.heap.size) (ar0) := Box.below x_r_s4 hbs6
        have z_g_s6 : Box Ws6 (g) ((nk n 0).map (Value.int .i64)) := Box.below z_g_s4 hbs6
        have z_h_s6 : Box Ws6 (h) (mark n []) := Box.below na_h_s4 hbs6
        have Bs6 := below_thru Bs4 hbs6
        clear x_r_s4 z_g_s4 na_h_s4 Bs4 hbs6
        obtain ⟨x, hx⟩ : ∃ b, Ws4.heap.size = b := ⟨_, rfl⟩
        rw [hx] at na_x_s6 ql_x_r ql_x_g ql_x_h qs_x ⊢
        clear hx
        refine wpAnyH_ready (rs := [6]) (by kernel_rfl) (by simp) (AllReadyH.cons rfl (fun K hK => ?_) AllReadyH.nil)
        have mz_g := (z_g_s6).lt
        have mz_h := (z_h_s6).lt
        have mz_x := (na_x_s6).lt
        have nz_r := (x_r_s6).lt
        refine step_store_box0 (cs := [.slice (some ⟨g, 0, none⟩) n n, .slice (some ⟨h, 0, none⟩) n n, .int .i64 0]) rfl rfl _ _ _ rfl na_x_s6 rfl rfl (size_ar _ _ _) rfl (one_ar _ _ _ _ _ _ _) ?_
        intro Ws7 hWs7
        have x_r_s7 : Box Ws7 (w.heap.size) (ar0) := hWs7.past _ _ (by omega) x_r_s6
        have z_g_s7 : Box Ws7 (g) ((nk n 0).map (Value.int .i64)) := hWs7.past _ _ (by omega) z_g_s6
        have z_h_s7 : Box Ws7 (h) (mark n []) := hWs7.past _ _ (by omega) z_h_s6
        have z_x_s7 := hWs7.box
        have Bs7 := hWs7.below _ _ (by omega) Bs6
        clear nz_r x_r_s6 z_g_s6 z_h_s6 na_x_s6 Bs6 hWs7
        refine hK.out _ _ x_r_s7 (fun _ => ?_); clear hK K
        refine wpAnyH_done (by kernel_rfl) ?_ _
        go_wp2_with fail
        go_meet
        exact ⟨g, h, x, rfl, by omega, by omega, by omega, by omega, by omega, by omega, z_g_s7, z_h_s7, z_x_s7, x_r_s7, Bs7⟩
      · skip
        go_simp
        have ql_x_r := (x_r_s3).lt
        have ql_x_g := (na_g_s3).lt
        have qs_x := Below.size Bs3
        refine hK.out _ _ (Box.alloc x_r_s3 _) (fun _ => ?_); clear hK K
        refine F_gen (F := fun W => wpAnyH _ _ _ _ _ _ _ _ W) (J := fun W => Box W (Ws3.heap.size) (ar0) ∧ Below Ws3.heap.size Ws3 W) (And.intro (Box.newc (l := ar0) rfl rfl) ((Below.refl _ _).alloc (Nat.le_refl _) _)) ?_
        intro Ws8 ⟨na_x_s8, hbs8⟩
        have x_r_s8 : Box Ws8 (w.heap.size) (ar0) := Box.below x_r_s3 hbs8
        have z_g_s8 : Box Ws8 (g) ((nk n 0).map (Value.int .i64)) := Box.below na_g_s3 hbs8
        have Bs8 := below_thru Bs3 hbs8
        clear x_r_s3 na_g_s3 Bs3 hbs8
        obtain ⟨x, hx⟩ : ∃ b, Ws3.heap.size = b := ⟨_, rfl⟩
        rw [hx] at na_x_s8 ql_x_r ql_x_g qs_x ⊢
        clear hx
        refine wpAnyH_ready (rs := [3]) (by kernel_rfl) (by simp) (AllReadyH.cons rfl (fun K hK => ?_) AllReadyH.nil)
        go_simp
        have ql_h_r := (x_r_s8).lt
        have ql_h_g := (z_g_s8).lt
        have ql_h_x := (na_x_s8).lt
        have qs_h := Below.size Bs8
        refine hK.out _ _ (Box.alloc x_r_s8 _) (fun _ => ?_); clear hK K
        refine F_gen (F := fun W => wpAnyH _ _ _ _ _ _ _ _ W) (J := fun W => Box W (Ws8.heap.size) (mark n []) ∧ Below Ws8.heap.size Ws8 W) (And.intro (Box.newc (l := mark n []) rfl rfl) ((Below.refl _ _).alloc (Nat.le_refl _) _)) ?_
        intro Ws9 ⟨na_h_s9, hbs9⟩
        have x_r_s9 : Box Ws9 (w.heap.size) (ar0) := Box.below x_r_s8 hbs9
        have z_g_s9 : Box Ws9 (g) ((nk n 0).map (Value.int .i64)) := Box.below z_g_s8 hbs9
        have z_x_s9 : Box Ws9 (x) (ar0) := Box.below na_x_s8 hbs9
        have Bs9 := below_thru Bs8 hbs9
        clear x_r_s8 z_g_s8 na_x_s8 Bs8 hbs9
        obtain ⟨h, hh⟩ : ∃ b, Ws8.heap.size = b := ⟨_, rfl⟩
        rw [hh] at na_h_s9 ql_h_r ql_h_g ql_h_x qs_h ⊢
        clear hh
        refine takeH 4 17 (v := ?vs4_10) rfl (by rfl) (by kernel_rfl) (by kernel_rfl) (by kernel_rfl) (fun _ _ _ h => h) (Or.inl ⟨by rfl, ?_⟩) (x_r_s9) ?_
        rotate_left
        · intro wq hSq
          go_simp
          exact rfl
        try simp only [Act.put, List.setIfInBounds_toArray, List.set_cons_zero, List.set_cons_succ]
        refine wpAnyH_ready (rs := [6]) (by kernel_rfl) (by simp) (AllReadyH.cons rfl (fun K hK => ?_) AllReadyH.nil)
        have mz_g := (z_g_s9).lt
        have mz_x := (z_x_s9).lt
        have mz_h := (na_h_s9).lt
        have nz_r := (x_r_s9).lt
        refine step_store_box0 (cs := [.slice (some ⟨g, 0, none⟩) n n, .slice (some ⟨h, 0, none⟩) n n, .int .i64 0]) rfl rfl _ _ _ rfl z_x_s9 rfl rfl (size_ar _ _ _) rfl (one_ar _ _ _ _ _ _ _) ?_
        intro Ws11 hWs11
        have x_r_s11 : Box Ws11 (w.heap.size) (ar0) := hWs11.past _ _ (by omega) x_r_s9
        have z_g_s11 : Box Ws11 (g) ((nk n 0).map (Value.int .i64)) := hWs11.past _ _ (by omega) z_g_s9
        have z_x_s11 := hWs11.box
        have z_h_s11 : Box Ws11 (h) (mark n []) := hWs11.past _ _ (by omega) na_h_s9
        have Bs11 := hWs11.below _ _ (by omega) Bs9
        clear nz_r x_r_s9 z_g_s9 z_x_s9 na_h_s9 Bs9 hWs11
        refine hK.out _ _ x_r_s11 (fun _ => ?_); clear hK K
        refine wpAnyH_done (by kernel_rfl) ?_ _
        go_wp2_with fail
        go_meet
        exact ⟨g, h, x, rfl, by omega, by omega, by omega, by omega, by omega, by omega, z_g_s11, z_h_s11, z_x_s11, x_r_s11, Bs11⟩
    · skip
      go_simp
      have ql_h_r := (x_r_s0).lt
      have qs_h := Below.size Bs0
      refine hK.out _ _ (Box.alloc x_r_s0 _) (fun _ => ?_); clear hK K
      refine F_gen (F := fun W => wpAnyH _ _ _ _ _ _ _ _ W) (J := fun W => Box W (Ws0.heap.size) (mark n []) ∧ Below Ws0.heap.size Ws0 W) (And.intro (Box.newc (l := mark n []) rfl rfl) ((Below.refl _ _).alloc (Nat.le_refl _) _)) ?_
      intro Ws12 ⟨na_h_s12, hbs12⟩
      have x_r_s12 : Box Ws12 (w.heap.size) (ar0) := Box.below x_r_s0 hbs12
      have Bs12 := below_thru Bs0 hbs12
      clear x_r_s0 Bs0 hbs12
      obtain ⟨h, hh⟩ : ∃ b, Ws0.heap.size = b := ⟨_, rfl⟩
      rw [hh] at na_h_s12 ql_h_r qs_h ⊢
      clear hh
      refine wpAnyH_ready (rs := [1, 5]) (by kernel_rfl) (by simp) (AllReadyH.cons rfl (fun K hK => ?_) (AllReadyH.cons rfl (fun K hK => ?_) AllReadyH.nil))
      · skip
        go_simp
        have ql_g_r := (x_r_s12).lt
        have ql_g_h := (na_h_s12).lt
        have qs_g := Below.size Bs12
        refine hK.out _ _ (Box.alloc x_r_s12 _) (fun _ => ?_); clear hK K
        refine F_gen (F := fun W => wpAnyH _ _ _ _ _ _ _ _ W) (J := fun W => Box W (Ws12.heap.size) ((nk n 0).map (Value.int .i64)) ∧ Below Ws12.heap.size Ws12 W) (And.intro (Box.newc (l := (nk n 0).map (Value.int .i64)) rfl rfl) ((Below.refl _ _).alloc (Nat.le_refl _) _)) ?_
        intro Ws13 ⟨na_g_s13, hbs13⟩
        have x_r_s13 : Box Ws13 (w.heap.size) (ar0) := Box.below x_r_s12 hbs13
        have z_h_s13 : Box Ws13 (h) (mark n []) := Box.below na_h_s12 hbs13
        have Bs13 := below_thru Bs12 hbs13
        clear x_r_s12 na_h_s12 Bs12 hbs13
        obtain ⟨g, hg⟩ : ∃ b, Ws12.heap.size = b := ⟨_, rfl⟩
        rw [hg] at na_g_s13 ql_g_r ql_g_h qs_g ⊢
        clear hg
        refine takeH 4 17 (v := ?vs4_14) rfl (by rfl) (by kernel_rfl) (by kernel_rfl) (by kernel_rfl) (fun _ _ _ h => h) (Or.inl ⟨by rfl, ?_⟩) (x_r_s13) ?_
        rotate_left
        · intro wq hSq
          go_simp
          exact rfl
        try simp only [Act.put, List.setIfInBounds_toArray, List.set_cons_zero, List.set_cons_succ]
        refine wpAnyH_ready (rs := [5]) (by kernel_rfl) (by simp) (AllReadyH.cons rfl (fun K hK => ?_) AllReadyH.nil)
        go_simp
        have ql_x_r := (x_r_s13).lt
        have ql_x_h := (z_h_s13).lt
        have ql_x_g := (na_g_s13).lt
        have qs_x := Below.size Bs13
        refine hK.out _ _ (Box.alloc x_r_s13 _) (fun _ => ?_); clear hK K
        refine F_gen (F := fun W => wpAnyH _ _ _ _ _ _ _ _ W) (J := fun W => Box W (Ws13.heap.size) (ar0) ∧ Below Ws13.heap.size Ws13 W) (And.intro (Box.newc (l := ar0) rfl rfl) ((Below.refl _ _).alloc (Nat.le_refl _) _)) ?_
        intro Ws15 ⟨na_x_s15, hbs15⟩
        have x_r_s15 : Box Ws15 (w.heap.size) (ar0) := Box.below x_r_s13 hbs15
        have z_h_s15 : Box Ws15 (h) (mark n []) := Box.below z_h_s13 hbs15
        have z_g_s15 : Box Ws15 (g) ((nk n 0).map (Value.int .i64)) := Box.below na_g_s13 hbs15
        have Bs15 := below_thru Bs13 hbs15
        clear x_r_s13 z_h_s13 na_g_s13 Bs13 hbs15
        obtain ⟨x, hx⟩ : ∃ b, Ws13.heap.size = b := ⟨_, rfl⟩
        rw [hx] at na_x_s15 ql_x_r ql_x_h ql_x_g qs_x ⊢
        clear hx
        refine wpAnyH_ready (rs := [6]) (by kernel_rfl) (by simp) (AllReadyH.cons rfl (fun K hK => ?_) AllReadyH.nil)
        have mz_h := (z_h_s15).lt
        have mz_g := (z_g_s15).lt
        have mz_x := (na_x_s15).lt
        have nz_r := (x_r_s15).lt
        refine step_store_box0 (cs := [.slice (some ⟨g, 0, none⟩) n n, .slice (some ⟨h, 0, none⟩) n n, .int .i64 0]) rfl rfl _ _ _ rfl na_x_s15 rfl rfl (size_ar _ _ _) rfl (one_ar _ _ _ _ _ _ _) ?_
        intro Ws16 hWs16
        have x_r_s16 : Box Ws16 (w.heap.size) (ar0) := hWs16.past _ _ (by omega) x_r_s15
        have z_h_s16 : Box Ws16 (h) (mark n []) := hWs16.past _ _ (by omega) z_h_s15
        have z_g_s16 : Box Ws16 (g) ((nk n 0).map (Value.int .i64)) := hWs16.past _ _ (by omega) z_g_s15
        have z_x_s16 := hWs16.box
        have Bs16 := hWs16.below _ _ (by omega) Bs15
        clear nz_r x_r_s15 z_h_s15 z_g_s15 na_x_s15 Bs15 hWs16
        refine hK.out _ _ x_r_s16 (fun _ => ?_); clear hK K
        refine wpAnyH_done (by kernel_rfl) ?_ _
        go_wp2_with fail
        go_meet
        exact ⟨g, h, x, rfl, by omega, by omega, by omega, by omega, by omega, by omega, z_g_s16, z_h_s16, z_x_s16, x_r_s16, Bs16⟩
      · skip
        go_simp
        have ql_x_r := (x_r_s12).lt
        have ql_x_h := (na_h_s12).lt
        have qs_x := Below.size Bs12
        refine hK.out _ _ (Box.alloc x_r_s12 _) (fun _ => ?_); clear hK K
        refine F_gen (F := fun W => wpAnyH _ _ _ _ _ _ _ _ W) (J := fun W => Box W (Ws12.heap.size) (ar0) ∧ Below Ws12.heap.size Ws12 W) (And.intro (Box.newc (l := ar0) rfl rfl) ((Below.refl _ _).alloc (Nat.le_refl _) _)) ?_
        intro Ws17 ⟨na_x_s17, hbs17⟩
        have x_r_s17 : Box Ws17 (w.heap.size) (ar0) := Box.below x_r_s12 hbs17
        have z_h_s17 : Box Ws17 (h) (mark n []) := Box.below na_h_s12 hbs17
        have Bs17 := below_thru Bs12 hbs17
        clear x_r_s12 na_h_s12 Bs12 hbs17
        obtain ⟨x, hx⟩ : ∃ b, Ws12.heap.size = b := ⟨_, rfl⟩
        rw [hx] at na_x_s17 ql_x_r ql_x_h qs_x ⊢
        clear hx
        refine wpAnyH_ready (rs := [1]) (by kernel_rfl) (by simp) (AllReadyH.cons rfl (fun K hK => ?_) AllReadyH.nil)
        go_simp
        have ql_g_r := (x_r_s17).lt
        have ql_g_h := (z_h_s17).lt
        have ql_g_x := (na_x_s17).lt
        have qs_g := Below.size Bs17
        refine hK.out _ _ (Box.alloc x_r_s17 _) (fun _ => ?_); clear hK K
        refine F_gen (F := fun W => wpAnyH _ _ _ _ _ _ _ _ W) (J := fun W => Box W (Ws17.heap.size) ((nk n 0).map (Value.int .i64)) ∧ Below Ws17.heap.size Ws17 W) (And.intro (Box.newc (l := (nk n 0).map (Value.int .i64)) rfl rfl) ((Below.refl _ _).alloc (Nat.le_refl _) _)) ?_
        intro Ws18 ⟨na_g_s18, hbs18⟩
        have x_r_s18 : Box Ws18 (w.heap.size) (ar0) := Box.below x_r_s17 hbs18
        have z_h_s18 : Box Ws18 (h) (mark n []) := Box.below z_h_s17 hbs18
        have z_x_s18 : Box Ws18 (x) (ar0) := Box.below na_x_s17 hbs18
        have Bs18 := below_thru Bs17 hbs18
        clear x_r_s17 z_h_s17 na_x_s17 Bs17 hbs18
        obtain ⟨g, hg⟩ : ∃ b, Ws17.heap.size = b := ⟨_, rfl⟩
        rw [hg] at na_g_s18 ql_g_r ql_g_h ql_g_x qs_g ⊢
        clear hg
        refine takeH 4 17 (v := ?vs4_19) rfl (by rfl) (by kernel_rfl) (by kernel_rfl) (by kernel_rfl) (fun _ _ _ h => h) (Or.inl ⟨by rfl, ?_⟩) (x_r_s18) ?_
        rotate_left
        · intro wq hSq
          go_simp
          exact rfl
        try simp only [Act.put, List.setIfInBounds_toArray, List.set_cons_zero, List.set_cons_succ]
        refine wpAnyH_ready (rs := [6]) (by kernel_rfl) (by simp) (AllReadyH.cons rfl (fun K hK => ?_) AllReadyH.nil)
        have mz_h := (z_h_s18).lt
        have mz_x := (z_x_s18).lt
        have mz_g := (na_g_s18).lt
        have nz_r := (x_r_s18).lt
        refine step_store_box0 (cs := [.slice (some ⟨g, 0, none⟩) n n, .slice (some ⟨h, 0, none⟩) n n, .int .i64 0]) rfl rfl _ _ _ rfl z_x_s18 rfl rfl (size_ar _ _ _) rfl (one_ar _ _ _ _ _ _ _) ?_
        intro Ws20 hWs20
        have x_r_s20 : Box Ws20 (w.heap.size) (ar0) := hWs20.past _ _ (by omega) x_r_s18
        have z_h_s20 : Box Ws20 (h) (mark n []) := hWs20.past _ _ (by omega) z_h_s18
        have z_x_s20 := hWs20.box
        have z_g_s20 : Box Ws20 (g) ((nk n 0).map (Value.int .i64)) := hWs20.past _ _ (by omega) na_g_s18
        have Bs20 := hWs20.below _ _ (by omega) Bs18
        clear nz_r x_r_s18 z_h_s18 z_x_s18 na_g_s18 Bs18 hWs20
        refine hK.out _ _ x_r_s20 (fun _ => ?_); clear hK K
        refine wpAnyH_done (by kernel_rfl) ?_ _
        go_wp2_with fail
        go_meet
        exact ⟨g, h, x, rfl, by omega, by omega, by omega, by omega, by omega, by omega, z_g_s20, z_h_s20, z_x_s20, x_r_s20, Bs20⟩
    · skip
      go_simp
      have ql_x_r := (x_r_s0).lt
      have qs_x := Below.size Bs0
      refine hK.out _ _ (Box.alloc x_r_s0 _) (fun _ => ?_); clear hK K
      refine F_gen (F := fun W => wpAnyH _ _ _ _ _ _ _ _ W) (J := fun W => Box W (Ws0.heap.size) (ar0) ∧ Below Ws0.heap.size Ws0 W) (And.intro (Box.newc (l := ar0) rfl rfl) ((Below.refl _ _).alloc (Nat.le_refl _) _)) ?_
      intro Ws21 ⟨na_x_s21, hbs21⟩
      have x_r_s21 : Box Ws21 (w.heap.size) (ar0) := Box.below x_r_s0 hbs21
      have Bs21 := below_thru Bs0 hbs21
      clear x_r_s0 Bs0 hbs21
      obtain ⟨x, hx⟩ : ∃ b, Ws0.heap.size = b := ⟨_, rfl⟩
      rw [hx] at na_x_s21 ql_x_r qs_x ⊢
      clear hx
      refine wpAnyH_ready (rs := [1, 3]) (by kernel_rfl) (by simp) (AllReadyH.cons rfl (fun K hK => ?_) (AllReadyH.cons rfl (fun K hK => ?_) AllReadyH.nil))
      · skip
        go_simp
        have ql_g_r := (x_r_s21).lt
        have ql_g_x := (na_x_s21).lt
        have qs_g := Below.size Bs21
        refine hK.out _ _ (Box.alloc x_r_s21 _) (fun _ => ?_); clear hK K
        refine F_gen (F := fun W => wpAnyH _ _ _ _ _ _ _ _ W) (J := fun W => Box W (Ws21.heap.size) ((nk n 0).map (Value.int .i64)) ∧ Below Ws21.heap.size Ws21 W) (And.intro (Box.newc (l := (nk n 0).map (Value.int .i64)) rfl rfl) ((Below.refl _ _).alloc (Nat.le_refl _) _)) ?_
        intro Ws22 ⟨na_g_s22, hbs22⟩
        have x_r_s22 : Box Ws22 (w.heap.size) (ar0) := Box.below x_r_s21 hbs22
        have z_x_s22 : Box Ws22 (x) (ar0) := Box.below na_x_s21 hbs22
        have Bs22 := below_thru Bs21 hbs22
        clear x_r_s21 na_x_s21 Bs21 hbs22
        obtain ⟨g, hg⟩ : ∃ b, Ws21.heap.size = b := ⟨_, rfl⟩
        rw [hg] at na_g_s22 ql_g_r ql_g_x qs_g ⊢
        clear hg
        refine wpAnyH_ready (rs := [3]) (by kernel_rfl) (by simp) (AllReadyH.cons rfl (fun K hK => ?_) AllReadyH.nil)
        go_simp
        have ql_h_r := (x_r_s22).lt
        have ql_h_x := (z_x_s22).lt
        have ql_h_g := (na_g_s22).lt
        have qs_h := Below.size Bs22
        refine hK.out _ _ (Box.alloc x_r_s22 _) (fun _ => ?_); clear hK K
        refine F_gen (F := fun W => wpAnyH _ _ _ _ _ _ _ _ W) (J := fun W => Box W (Ws22.heap.size) (mark n []) ∧ Below Ws22.heap.size Ws22 W) (And.intro (Box.newc (l := mark n []) rfl rfl) ((Below.refl _ _).alloc (Nat.le_refl _) _)) ?_
        intro Ws23 ⟨na_h_s23, hbs23⟩
        have x_r_s23 : Box Ws23 (w.heap.size) (ar0) := Box.below x_r_s22 hbs23
        have z_x_s23 : Box Ws23 (x) (ar0) := Box.below z_x_s22 hbs23
        have z_g_s23 : Box Ws23 (g) ((nk n 0).map (Value.int .i64)) := Box.below na_g_s22 hbs23
        have Bs23 := below_thru Bs22 hbs23
        clear x_r_s22 z_x_s22 na_g_s22 Bs22 hbs23
        obtain ⟨h, hh⟩ : ∃ b, Ws22.heap.size = b := ⟨_, rfl⟩
        rw [hh] at na_h_s23 ql_h_r ql_h_x ql_h_g qs_h ⊢
        clear hh
        refine takeH 4 17 (v := ?vs4_24) rfl (by rfl) (by kernel_rfl) (by kernel_rfl) (by kernel_rfl) (fun _ _ _ h => h) (Or.inl ⟨by rfl, ?_⟩) (x_r_s23) ?_
        rotate_left
        · intro wq hSq
          go_simp
          exact rfl
        try simp only [Act.put, List.setIfInBounds_toArray, List.set_cons_zero, List.set_cons_succ]
        refine wpAnyH_ready (rs := [6]) (by kernel_rfl) (by simp) (AllReadyH.cons rfl (fun K hK => ?_) AllReadyH.nil)
        have mz_x := (z_x_s23).lt
        have mz_g := (z_g_s23).lt
        have mz_h := (na_h_s23).lt
        have nz_r := (x_r_s23).lt
        refine step_store_box0 (cs := [.slice (some ⟨g, 0, none⟩) n n, .slice (some ⟨h, 0, none⟩) n n, .int .i64 0]) rfl rfl _ _ _ rfl z_x_s23 rfl rfl (size_ar _ _ _) rfl (one_ar _ _ _ _ _ _ _) ?_
        intro Ws25 hWs25
        have x_r_s25 : Box Ws25 (w.heap.size) (ar0) := hWs25.past _ _ (by omega) x_r_s23
        have z_x_s25 := hWs25.box
        have z_g_s25 : Box Ws25 (g) ((nk n 0).map (Value.int .i64)) := hWs25.past _ _ (by omega) z_g_s23
        have z_h_s25 : Box Ws25 (h) (mark n []) := hWs25.past _ _ (by omega) na_h_s23
        have Bs25 := hWs25.below _ _ (by omega) Bs23
        clear nz_r x_r_s23 z_x_s23 z_g_s23 na_h_s23 Bs23 hWs25
        refine hK.out _ _ x_r_s25 (fun _ => ?_); clear hK K
        refine wpAnyH_done (by kernel_rfl) ?_ _
        go_wp2_with fail
        go_meet
        exact ⟨g, h, x, rfl, by omega, by omega, by omega, by omega, by omega, by omega, z_g_s25, z_h_s25, z_x_s25, x_r_s25, Bs25⟩
      · skip
        go_simp
        have ql_h_r := (x_r_s21).lt
        have ql_h_x := (na_x_s21).lt
        have qs_h := Below.size Bs21
        refine hK.out _ _ (Box.alloc x_r_s21 _) (fun _ => ?_); clear hK K
        refine F_gen (F := fun W => wpAnyH _ _ _ _ _ _ _ _ W) (J := fun W => Box W (Ws21.heap.size) (mark n []) ∧ Below Ws21.heap.size Ws21 W) (And.intro (Box.newc (l := mark n []) rfl rfl) ((Below.refl _ _).alloc (Nat.le_refl _) _)) ?_
        intro Ws26 ⟨na_h_s26, hbs26⟩
        have x_r_s26 : Box Ws26 (w.heap.size) (ar0) := Box.below x_r_s21 hbs26
        have z_x_s26 : Box Ws26 (x) (ar0) := Box.below na_x_s21 hbs26
        have Bs26 := below_thru Bs21 hbs26
        clear x_r_s21 na_x_s21 Bs21 hbs26
        obtain ⟨h, hh⟩ : ∃ b, Ws21.heap.size = b := ⟨_, rfl⟩
        rw [hh] at na_h_s26 ql_h_r ql_h_x qs_h ⊢
        clear hh
        refine wpAnyH_ready (rs := [1]) (by kernel_rfl) (by simp) (AllReadyH.cons rfl (fun K hK => ?_) AllReadyH.nil)
        go_simp
        have ql_g_r := (x_r_s26).lt
        have ql_g_x := (z_x_s26).lt
        have ql_g_h := (na_h_s26).lt
        have qs_g := Below.size Bs26
        refine hK.out _ _ (Box.alloc x_r_s26 _) (fun _ => ?_); clear hK K
        refine F_gen (F := fun W => wpAnyH _ _ _ _ _ _ _ _ W) (J := fun W => Box W (Ws26.heap.size) ((nk n 0).map (Value.int .i64)) ∧ Below Ws26.heap.size Ws26 W) (And.intro (Box.newc (l := (nk n 0).map (Value.int .i64)) rfl rfl) ((Below.refl _ _).alloc (Nat.le_refl _) _)) ?_
        intro Ws27 ⟨na_g_s27, hbs27⟩
        have x_r_s27 : Box Ws27 (w.heap.size) (ar0) := Box.below x_r_s26 hbs27
        have z_x_s27 : Box Ws27 (x) (ar0) := Box.below z_x_s26 hbs27
        have z_h_s27 : Box Ws27 (h) (mark n []) := Box.below na_h_s26 hbs27
        have Bs27 := below_thru Bs26 hbs27
        clear x_r_s26 z_x_s26 na_h_s26 Bs26 hbs27
        obtain ⟨g, hg⟩ : ∃ b, Ws26.heap.size = b := ⟨_, rfl⟩
        rw [hg] at na_g_s27 ql_g_r ql_g_x ql_g_h qs_g ⊢
        clear hg
        refine takeH 4 17 (v := ?vs4_28) rfl (by rfl) (by kernel_rfl) (by kernel_rfl) (by kernel_rfl) (fun _ _ _ h => h) (Or.inl ⟨by rfl, ?_⟩) (x_r_s27) ?_
        rotate_left
        · intro wq hSq
          go_simp
          exact rfl
        try simp only [Act.put, List.setIfInBounds_toArray, List.set_cons_zero, List.set_cons_succ]
        refine wpAnyH_ready (rs := [6]) (by kernel_rfl) (by simp) (AllReadyH.cons rfl (fun K hK => ?_) AllReadyH.nil)
        have mz_x := (z_x_s27).lt
        have mz_h := (z_h_s27).lt
        have mz_g := (na_g_s27).lt
        have nz_r := (x_r_s27).lt
        refine step_store_box0 (cs := [.slice (some ⟨g, 0, none⟩) n n, .slice (some ⟨h, 0, none⟩) n n, .int .i64 0]) rfl rfl _ _ _ rfl z_x_s27 rfl rfl (size_ar _ _ _) rfl (one_ar _ _ _ _ _ _ _) ?_
        intro Ws29 hWs29
        have x_r_s29 : Box Ws29 (w.heap.size) (ar0) := hWs29.past _ _ (by omega) x_r_s27
        have z_x_s29 := hWs29.box
        have z_h_s29 : Box Ws29 (h) (mark n []) := hWs29.past _ _ (by omega) z_h_s27
        have z_g_s29 : Box Ws29 (g) ((nk n 0).map (Value.int .i64)) := hWs29.past _ _ (by omega) na_g_s27
        have Bs29 := hWs29.below _ _ (by omega) Bs27
        clear nz_r x_r_s27 z_x_s27 z_h_s27 na_g_s27 Bs27 hWs29
        refine hK.out _ _ x_r_s29 (fun _ => ?_); clear hK K
        refine wpAnyH_done (by kernel_rfl) ?_ _
        go_wp2_with fail
        go_meet
        exact ⟨g, h, x, rfl, by omega, by omega, by omega, by omega, by omega, by omega, z_g_s29, z_h_s29, z_x_s29, x_r_s29, Bs29⟩
  case rest =>
    clear x_r0 hB0 hs0
    obtain ⟨g, h, x, rfl, lg, lh, lx, gh, gx, hx, x_g, x_h, x_x, x_r, hB⟩ := hcut
    have hs := hB.size; clear MI MB
    go_wp2_with fail
    go_loopw [19] (fun i wr => ∃ k : Nat, k ≤ n ∧ i = .int .i64 k ∧ Box wr g ((nk n k).map (Value.int .i64)) ∧ Box wr h (mark n []) ∧ Box wr x [.slice (some ⟨g, 0, none⟩) n n, .slice (some ⟨h, 0, none⟩) n n, .int .i64 0] ∧ Box wr w.heap.size ar0 ∧ Below w.heap.size w wr) (fun i _ => n - (intOf i).toNat)
    case atStart => exact ⟨0, Nat.zero_le _, rfl, x_g, x_h, x_x, x_r, hB⟩
    case round =>
      clear x_g x_h x_x x_r hB hs
      obtain ⟨k, hk, rfl, x_g, x_h, x_x, x_r, hB⟩ := hrel
      have hs := hB.size; have ca := x_x.c 0 _ rfl; have za := x_x.lt; have zg := x_g.lt; have zh := x_h.lt; have zr := x_r.lt
      by_cases hlt : k < n
      case pos =>
        have i0 : (0 : Int) ≤ (k : Int) := (by omega); have i1 : (k : Int) < (n : Int) := (by omega)
        have W1 : IntKind.i64.wrap ((k : Int) + 1) = ((k + 1 : Nat) : Int) := by rw [IntKind.wrap_i64]; omega
        have NS := Lib.hid (show (nk n (k + 1)).map (Value.int .i64) = ((nk n k).map (Value.int .i64)).set k (.int .i64 ((k + 1 : Nat) : Int)) by rw [nk_set, set_ints]); have NL := Lib.hid (show k < ((nk n k).map (Value.int .i64)).length by rw [List.length_map, nk_len]; exact hlt)
        go_upto_region 8 with (refine wpList_store_cell (k := k) (ws := (nk n (k + 1)).map (Value.int .i64)) (v := .int .i64 ((k + 1 : Nat) : Int)) rfl _ _ _ rfl x_g rfl rfl rfl rfl size_in NL.out NS.out ?_; intro W3 hW3)
        have y_g := hW3.box; have y_h := hW3.past _ _ (by omega) x_h; have y_x := hW3.past _ _ (by omega) x_x; have y_r := hW3.past _ _ (by omega) x_r; have hB3 := hW3.below _ _ (by omega) hB
        clear x_g x_h x_x x_r hB hW3 ca za zg zh zr hs
        go_wp2_with fail
        go_roundw
        case rel => exact ⟨k + 1, by omega, by go_num, y_g, y_h, y_x, y_r, hB3⟩
        case measure => simp [intOf]; omega
      case neg =>
        have hd : decide ((k : Int) < (n : Int)) = false := decide_eq_false (by omega)
        have hkn : k = n := by omega
        rw [hkn] at x_g
        have NE := Lib.hid (show (newA n).nx.map (Value.int .i64) = ((nk n n).map (Value.int .i64)).set m (.int .i64 (-1)) by have := HN.out; subst this; rw [nk_end, set_ints]); have NL := Lib.hid (show m < ((nk n n).map (Value.int .i64)).length by rw [List.length_map, nk_len]; omega)
        clear hkn
        go_upto_region 10 with (refine wpList_store_cell (k := m) (ws := (newA n).nx.map (Value.int .i64)) (v := .int .i64 (-1)) rfl _ _ _ rfl x_g rfl rfl rfl rfl size_in NL.out NE.out ?_; intro W3 hW3)
        have y_g := hW3.box; have y_h := hW3.past _ _ (by omega) x_h; have y_x := hW3.past _ _ (by omega) x_x; have y_r := hW3.past _ _ (by omega) x_r; have hB3 := hW3.below _ _ (by omega) hB
        clear x_g x_h x_x x_r hB hW3 ca za zg zh zr hs hd
        have zr := y_r.lt
        go_wp2_with (first | (refine wpList_load_box9 rfl _ _ rfl y_x rfl Try.underlying25 rfl (size_ar _ _ _) ?_) | (refine wpList_store_box (cs := [.slice (some ⟨g, 0, none⟩) n n, .slice (some ⟨h, 0, none⟩) n n, .int .i64 0]) rfl _ _ _ rfl y_r rfl rfl (size_ar _ _ _) rfl (one_ar _ _ _ _ _ _ _) ?_; intro W99 hW99))
        have v_g := hW99.past _ _ (by omega) y_g; have v_h := hW99.past _ _ (by omega) y_h
        rw [mark_new] at v_h
        exact bodyPost_ret (results_box2 Try.results10 hW99.box rfl rfl Try.underlying25 rfl (size_ar _ _ _)) rfl ⟨_, rfl, IsA.boxes v_g v_h rfl (by simp [newA]) (by simp [newA]) ⟨Nat.le_refl _, by omega⟩ ⟨Nat.le_refl _, by omega⟩, fresh_boxes (by omega) (by omega), hW99.below _ _ (by omega) hB3⟩

/-- What New answers. -/
def NwA (p : Int) (B : Ar) (q : Int) : Prop := (q = 2 ∧ (p < 1 ∨ 16 < p) ∧ B = Ar.zero) ∨ (q = 0 ∧ ∃ n m : Nat, p = n ∧ n = m + 1 ∧ n ≤ 16 ∧ B = newA n)
theorem NwA.ex (p : Int) : ∃ B q, NwA p B q := by
  by_cases h : p < 1 ∨ 16 < p
  · exact ⟨_, _, Or.inl ⟨rfl, h, rfl⟩⟩
  · exact ⟨_, _, Or.inr ⟨rfl, p.toNat, p.toNat - 1, by omega, by omega, by omega, rfl⟩⟩
theorem pnew_is {p : Int} {B : Ar} {q : Int} (h : NwA p B q) (w : World) : Calls Try.prog 10 #[.int .i64 p] w fun e w' => ∃ v, e = .returned (.tuple #[v, .int .i64 q]) ∧ ResA B w v w' := by
  rcases h with ⟨rfl, h | h, rfl⟩ | ⟨rfl, n, m, rfl, hn, hm, rfl⟩
  · exact pnew_a h w
  · exact pnew_b h w
  · exact pnew_c hn hm w


end Go.Proofs.Ytepimljjbmoojaa
