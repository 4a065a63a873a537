/-
  The reference of layer 12, walked: Twin.
-/
import Derived.Test.YtpccahdbienjeaaRIdB
import Derived.Test.YtpccahdbienjeaaGQ1
import Derived.Test.YtpccahdbienjeaaGQ6
namespace Go.Proofs.Ytpccahdbienjeaa
open Go.RowKit

theorem info_tk12 : (Try.prog.info? 34).map (fun i => (i.zero, i.size, i.bytes)) = some (some (.agg zT12.toArray), 36, 56) := by kernel_rfl
theorem info_cm12 : (Try.prog.info? 39).map (fun i => (i.zero, i.size, i.bytes)) = some (some (.agg (ccell Cmd.zero).toArray), 47, 136) := by kernel_rfl
theorem size_id12 (a b : Value) : (Try.prog.info? 25).map (·.size) = some [a, b].length := by show _ = some 2; kernel_rfl
theorem one_id12 (a b : Option Addr) (n m c d : Nat) : ([Value.slice a n c, Value.slice b m d] : List Value).toArray.all (·.oneCell') = true := all_oneCell_toArray (fun u hu => by
  simp at hu
  rcases hu with rfl | rfl <;> rfl)
theorem Box.keep12 {w w' : World} {b B : Nat} {vs : List Value} (h : Box w b vs) (hb : Below B w w') (hB : b < B) : Box w' b vs := by
  have hh := hb.block b hB
  exact ⟨fun i v e => by have := h.c i v e; simpa [World.cell?, hh] using this, fun i v e => by have := h.f i v e; simpa [World.frozen?, hh] using this, Nat.lt_of_lt_of_le h.lt hb.size⟩
theorem own_slR {w : World} {B e s : Nat} {v : Value} {n : Nat} {l : List Value} (h : w.ownsRow B e s v n l) : ∃ a c, v = .slice a n c := by
  rcases h.2 with ⟨rfl, rfl⟩ | ⟨g, cap, cur, rfl, _⟩
  · exact ⟨none, 0, rfl⟩
  · exact ⟨_, _, rfl⟩
theorem ownR_stored {w W : World} {b : Nat} {vs : List Value} (hs : Stored w b vs W) {B e s n : Nat} {v : Value} {l : List Value} (h : w.ownsRow B e s v n l) (hb : b < B) : W.ownsRow B e s v n l := by
  refine ⟨h.1, ?_⟩
  rcases h.2 with q | ⟨g, cap, cur, e1, hB, hg, r⟩
  · exact Or.inl q
  · exact Or.inr ⟨g, cap, cur, e1, hB, by rw [hs.block g (by omega)]; exact hg, r⟩
theorem ownR_apart {w w' : World} {B B' e e' s s' n n' : Nat} {v v' : Value} {l l' : List Value} (h : w.ownsRow B e s v n l) (h' : w.ownsRow B' e' s' v' n' l') (hne : e ≠ e') (hg : w.grownBy w' v'.ownBlock) : w'.ownsRow B e s v n l := by
  refine World.ownsRow.kept h hg ?_
  rcases h.2 with ⟨rfl, _⟩ | ⟨g, cap, cur, rfl, _, hb, _⟩
  · exact Or.inl rfl
  · rcases h'.2 with ⟨rfl, _⟩ | ⟨g', cap', cur', rfl, _, hb', _⟩
    · exact Or.inr (fun q => by cases q)
    · refine Or.inr (fun q => hne ?_)
      obtain rfl : g = g' := by simpa [Value.ownBlock] using q
      rw [hb] at hb'
      cases hb'
      rfl
theorem step_append_rowsG {P : Program} {w : World} {ops : Array Oper} {o : Oper} {a : Act} {K : Act → World → Prop} {Q : Exit → Act → World → Prop} {α : Type} {E : Prop} (d : Nat) (hd : o.dst = some d) (hgd : o.guard = none) (L : Lay α) (s x : Operand) (t : TypeId)
    (ho : o.op = .call { callee := .builtin .append, args := #[s, x], argTypes := #[t, t] })
    (base : Nat) (e : TypeId) (i : TypeInfo) (z : Value) (sz bytes : Nat) (hsz : L.s = sz) (ht : P.underlying t = some (.slice e)) (hi : P.info? e = some i) (hz : i.zero = some z)
    (hsize : i.size = sz) (hby : i.bytes = bytes) (hzs : z.cells.size = sz)
    (v : Value) (n : Nat) (l : List Value) (hs : a.eval s = v) (hown : w.ownsRow base e sz v n l)
    (v2 : Value) (xs : List α) (hx : a.eval x = v2) (hin : IsR L w v2 xs)
    (h63 : n + xs.length ≤ maxLen) (hbytes : (n + xs.length) * bytes ≤ 140737488355328) (hbase : base ≤ w.heap.size)
    (h : ∀ v' w', w'.ownsRow base e sz v' (n + xs.length) (l ++ flatR L xs) → w.grownBy w' v.ownBlock → K (a.put (some d) v') w') : if Region.wanted o (yielded ops a.tmps) = true then Oper.wp P o a w K Q else E := by
  rw [if_pos (by simp [Region.wanted, hgd])]
  exact wp_append_rows L s x t ho base e i z sz bytes hsz ht hi hz hsize hby hzs v n l hs hown v2 xs hx hin h63 hbytes hbase fun v' w' h1 h2 => by rw [hd]; exact h v' w' h1 h2
/-- A table of the call's own. -/
def GivesD (ts : List Tk) (cs : List Cmd) (w : World) (e : Ending) (w' : World) : Prop := ∃ a b, e = .returned (.agg #[a, b]) ∧ w'.ownsRow w.heap.size 34 36 a ts.length (flatR LT ts) ∧ w'.ownsRow w.heap.size 39 47 b cs.length (flatR LC cs) ∧ Below w.heap.size w w'
def id0 : List Value := [.slice none 0 0, .slice none 0 0]

set_option maxRecDepth 100000 in
set_option maxHeartbeats 6400000 in
theorem rtwin_is {v : Value} {ts : List Tk} {cs : List Cmd} (w : World) (h1 : IsD w v ts cs) (hl : ts.length + cs.length ≤ 200) : Calls Try.prog 12 #[v] w (GivesD ts cs w) := by
  obtain ⟨v1, v2, rfl, g1, g2⟩ := id h1
  obtain ⟨a1, c1, rfl, hr1⟩ := id g1; obtain ⟨a2, c2, rfl, hr2⟩ := id g2
  have m1 := hr1.most; have r1 := hr1.room; have m2 := hr2.most; have r2 := hr2.room; have H1 := Lib.hid g1; have H2 := Lib.hid g2
  clear hr1 hr2 g1 g2 h1
  obtain ⟨tiLT, hinLT, hz0LT, hz1LT, hz2LT⟩ := info_parts info_tk12; obtain ⟨tiLC, hinLC, hz0LC, hz1LC, hz2LC⟩ := info_parts info_cm12
  have HL := Lib.hid hl; clear hl
  go_enter Try.func12, Try.ntmps12
  go_upto_region 1 with fail
  refine F_gen (F := fun W => Code.wp _ _ _ _ W) (J := fun W => Box W (w.heap.size) ([.slice a1 ts.length c1, .slice a2 cs.length c2]) ∧ Box W (w.heap.size + 1) (id0) ∧ Below w.heap.size w W) (And.intro (Box.alloc (Box.newc rfl rfl) _) (And.intro (Box.newc rfl (by simp)) (by go_grown))) ?_
  intro w0 ⟨e_d, e_r, hB0⟩
  have hs0 := hB0.size
  have x_d0 := e_d; clear e_d
  have x_r0 := e_r; clear e_r
  refine wp_region_held_drew (S := fun W => Box W (w.heap.size) ([.slice a1 ts.length c1, .slice a2 cs.length c2])) (by kernel_rfl) (x_d0).drew (fun _ => ?_)
  refine F_drew (F := fun W => wpAnyH _ _ _ _ _ _ _ _ W) ?_
  intro Ws0 hbs0
  clear hs0
  have x_d_s0 : Box Ws0 (w.heap.size) ([.slice a1 ts.length c1, .slice a2 cs.length c2]) := Box.below x_d0 hbs0
  have z_r_s0 : Box Ws0 (w.heap.size + 1) (id0) := Box.below x_r0 hbs0
  have Bs0 := below_thru hB0 hbs0
  clear x_d0 x_r0 hB0 hbs0
  refine takeH 1 4 (v := ?vs1_1) rfl (by rfl) (by kernel_rfl) (by kernel_rfl) (by kernel_rfl) (fun _ _ _ h => h) (Or.inl ⟨by rfl, ?_⟩) (x_d_s0) ?_
  rotate_left
  · intro wq hSq
    go_simp
    exact rfl
  try simp only [Act.put, List.setIfInBounds_toArray, List.set_cons_zero, List.set_cons_succ]
  refine takeH 2 5 (v := ?vs2_2) rfl (by rfl) (by kernel_rfl) (by kernel_rfl) (by kernel_rfl) (fun _ _ _ h => h) (Or.inl ⟨by rfl, ?_⟩) (x_d_s0) ?_
  rotate_left
  · intro wq hSq
    have cq := hSq.c 0 _ rfl
    have zq := lt_of_cell cq
    go_simp
    exact rfl
  try simp only [Act.put, List.setIfInBounds_toArray, List.set_cons_zero, List.set_cons_succ]
  refine takeH 5 8 (v := ?vs5_3) rfl (by rfl) (by kernel_rfl) (by kernel_rfl) (by kernel_rfl) (fun _ _ _ h => h) (Or.inl ⟨by rfl, ?_⟩) (x_d_s0) ?_
  rotate_left
  · intro wq hSq
    go_simp
    exact rfl
  try simp only [Act.put, List.setIfInBounds_toArray, List.set_cons_zero, List.set_cons_succ]
  refine takeH 6 9 (v := ?vs6_4) rfl (by rfl) (by kernel_rfl) (by kernel_rfl) (by kernel_rfl) (fun _ _ _ h => h) (Or.inl ⟨by rfl, ?_⟩) (x_d_s0) ?_
  rotate_left
  · intro wq hSq
    have cq := hSq.c 1 _ rfl
    have zq := lt_of_cell cq
    go_simp
    exact rfl
  try simp only [Act.put, List.setIfInBounds_toArray, List.set_cons_zero, List.set_cons_succ]
  refine wpAnyH_ready (rs := [0, 4]) (by kernel_rfl) (by simp) (AllReadyH.cons rfl (fun K hK => ?_) (AllReadyH.cons rfl (fun K hK => ?_) AllReadyH.nil))
  · skip
    have zls5 : w.heap.size + 2 ≤ Ws0.heap.size := (by have := (z_r_s0).lt; omega)
    go_simp
    refine hK.out _ _ (Box.alloc x_d_s0 _) (fun _ => ?_); clear hK K
    refine F_gen (F := fun W => wpAnyH _ _ _ _ _ _ _ _ W) (J := fun W => Hid (W.ownsRow (w.heap.size + 2) 34 36 (.slice (some ⟨Ws0.heap.size, 0, none⟩) 0 0) (0) ([])) ∧ Below Ws0.heap.size Ws0 W) (And.intro (Lib.hid (World.ownsRow_lit (base := w.heap.size + 2) (size := 36) Ws0 #[] 0 zls5 (by unfold maxLen; omega) rfl)) ((Below.refl _ _).alloc (Nat.le_refl _) _)) ?_
    intro Ws5 ⟨na_t_s5, hbs5⟩
    have x_d_s5 : Box Ws5 (w.heap.size) ([.slice a1 ts.length c1, .slice a2 cs.length c2]) := Box.below x_d_s0 hbs5
    have z_r_s5 : Box Ws5 (w.heap.size + 1) (id0) := Box.below z_r_s0 hbs5
    have Bs5 := below_thru Bs0 hbs5
    clear x_d_s0 z_r_s0 Bs0 hbs5
    clear zls5
    refine wpAnyH_ready (rs := [3, 4]) (by kernel_rfl) (by simp) (AllReadyH.cons rfl (fun K hK => ?_) (AllReadyH.cons rfl (fun K hK => ?_) AllReadyH.nil))
    · skip
      have zz6 : w.heap.size + 2 ≤ Ws5.heap.size := (by have := (z_r_s5).lt; omega)
      refine step_append_rowsG 6 rfl rfl LT _ _ 22 rfl (w.heap.size + 2) 34 tiLT (.agg zT12.toArray) 36 56 rfl Try.underlying22 hinLT hz0LT hz1LT hz2LT rfl _ (0) _ rfl na_t_s5.out _ (ts) rfl (H1.out.below Bs5) (by unfold maxLen; have := HL.out; omega) (by have := HL.out; omega) zz6 ?_
      intro vs6 Ws6 hown hgr
      have hKB := (Below.refl (w.heap.size + 2) _).grown hgr zz6 (ownR_block na_t_s5.out)
      have x_d_s6 : Box Ws6 (w.heap.size) ([.slice a1 ts.length c1, .slice a2 cs.length c2]) := Box.keep12 x_d_s5 hKB (by omega)
      have z_r_s6 : Box Ws6 (w.heap.size + 1) (id0) := Box.keep12 z_r_s5 hKB (by omega)
      rw [Nat.zero_add, List.nil_append] at hown
      obtain ⟨vas6, vcs6, rfl⟩ := own_slR hown
      have o_t_s6 := Lib.hid hown
      have Bs6 := (Bs5).trans (hKB.mono (by omega))
      clear x_d_s5 z_r_s5 na_t_s5 Bs5 hown hgr hKB zz6
      refine hK.out _ _ x_d_s6 (fun _ => ?_); clear hK K
      refine wpAnyH_ready (rs := [4]) (by kernel_rfl) (by simp) (AllReadyH.cons rfl (fun K hK => ?_) AllReadyH.nil)
      have zls7 : w.heap.size + 2 ≤ Ws6.heap.size := (by have := (z_r_s6).lt; omega)
      go_simp
      refine hK.out _ _ (Box.alloc x_d_s6 _) (fun _ => ?_); clear hK K
      refine F_gen (F := fun W => wpAnyH _ _ _ _ _ _ _ _ W) (J := fun W => Hid (W.ownsRow (w.heap.size + 2) 39 47 (.slice (some ⟨Ws6.heap.size, 0, none⟩) 0 0) (0) ([])) ∧ Below Ws6.heap.size Ws6 W) (And.intro (Lib.hid (World.ownsRow_lit (base := w.heap.size + 2) (size := 47) Ws6 #[] 0 zls7 (by unfold maxLen; omega) rfl)) ((Below.refl _ _).alloc (Nat.le_refl _) _)) ?_
      intro Ws7 ⟨na_c_s7, hbs7⟩
      have x_d_s7 : Box Ws7 (w.heap.size) ([.slice a1 ts.length c1, .slice a2 cs.length c2]) := Box.below x_d_s6 hbs7
      have z_r_s7 : Box Ws7 (w.heap.size + 1) (id0) := Box.below z_r_s6 hbs7
      have o_t_s7 := Lib.hid (ownR_below o_t_s6.out hbs7)
      have Bs7 := below_thru Bs6 hbs7
      clear x_d_s6 z_r_s6 o_t_s6 Bs6 hbs7
      clear zls7
      refine wpAnyH_ready (rs := [7]) (by kernel_rfl) (by simp) (AllReadyH.cons rfl (fun K hK => ?_) AllReadyH.nil)
      have zz8 : w.heap.size + 2 ≤ Ws7.heap.size := (by have := (z_r_s7).lt; omega)
      refine step_append_rowsG 10 rfl rfl LC _ _ 23 rfl (w.heap.size + 2) 39 tiLC (.agg (ccell Cmd.zero).toArray) 47 136 rfl Try.underlying23 hinLC hz0LC hz1LC hz2LC rfl _ (0) _ rfl na_c_s7.out _ (cs) rfl (H2.out.below Bs7) (by unfold maxLen; have := HL.out; omega) (by have := HL.out; omega) zz8 ?_
      intro vs8 Ws8 hown hgr
      have hKB := (Below.refl (w.heap.size + 2) _).grown hgr zz8 (ownR_block na_c_s7.out)
      have x_d_s8 : Box Ws8 (w.heap.size) ([.slice a1 ts.length c1, .slice a2 cs.length c2]) := Box.keep12 x_d_s7 hKB (by omega)
      have z_r_s8 : Box Ws8 (w.heap.size + 1) (id0) := Box.keep12 z_r_s7 hKB (by omega)
      have o_t_s8 := Lib.hid (ownR_apart o_t_s7.out na_c_s7.out (by decide) hgr)
      rw [Nat.zero_add, List.nil_append] at hown
      obtain ⟨vas8, vcs8, rfl⟩ := own_slR hown
      have o_c_s8 := Lib.hid hown
      have Bs8 := (Bs7).trans (hKB.mono (by omega))
      clear x_d_s7 z_r_s7 o_t_s7 na_c_s7 Bs7 hown hgr hKB zz8
      refine hK.out _ _ x_d_s8 (fun _ => ?_); clear hK K
      refine takeH 8 11 (v := ?vs8_9) rfl (by rfl) (by kernel_rfl) (by kernel_rfl) (by kernel_rfl) (fun _ _ _ h => h) (Or.inl ⟨by rfl, ?_⟩) (x_d_s8) ?_
      rotate_left
      · intro wq hSq
        go_simp
        exact rfl
      try simp only [Act.put, List.setIfInBounds_toArray, List.set_cons_zero, List.set_cons_succ]
      refine wpAnyH_ready (rs := [9]) (by kernel_rfl) (by simp) (AllReadyH.cons rfl (fun K hK => ?_) AllReadyH.nil)
      have nz_d := (x_d_s8).lt
      refine step_store_box0 (cs := [.slice vas6 (ts.length) vcs6, .slice vas8 (cs.length) vcs8]) rfl rfl _ _ _ rfl z_r_s8 rfl rfl (size_id12 _ _) rfl (one_id12 _ _ _ _ _ _) ?_
      intro Ws10 hWs10
      have x_d_s10 : Box Ws10 (w.heap.size) ([.slice a1 ts.length c1, .slice a2 cs.length c2]) := hWs10.past _ _ (by omega) x_d_s8
      have z_r_s10 := hWs10.box
      have o_t_s10 := Lib.hid (ownR_stored hWs10 o_t_s8.out (by omega))
      have o_c_s10 := Lib.hid (ownR_stored hWs10 o_c_s8.out (by omega))
      have Bs10 := hWs10.below _ _ (by omega) Bs8
      clear nz_d x_d_s8 z_r_s8 o_t_s8 o_c_s8 Bs8 hWs10
      refine hK.out _ _ x_d_s10 (fun _ => ?_); clear hK K
      refine wpAnyH_done (by kernel_rfl) ?_ _
      go_wp2_with fail
      exact bodyPost_ret (results_box Try.results12 z_r_s10 rfl Try.underlying25 rfl (size_id12 _ _)) rfl ⟨_, _, rfl, ownR_base o_t_s10.out (by omega), ownR_base o_c_s10.out (by omega), Bs10⟩
    · skip
      have zls11 : w.heap.size + 2 ≤ Ws5.heap.size := (by have := (z_r_s5).lt; omega)
      go_simp
      refine hK.out _ _ (Box.alloc x_d_s5 _) (fun _ => ?_); clear hK K
      refine F_gen (F := fun W => wpAnyH _ _ _ _ _ _ _ _ W) (J := fun W => Hid (W.ownsRow (w.heap.size + 2) 39 47 (.slice (some ⟨Ws5.heap.size, 0, none⟩) 0 0) (0) ([])) ∧ Below Ws5.heap.size Ws5 W) (And.intro (Lib.hid (World.ownsRow_lit (base := w.heap.size + 2) (size := 47) Ws5 #[] 0 zls11 (by unfold maxLen; omega) rfl)) ((Below.refl _ _).alloc (Nat.le_refl _) _)) ?_
      intro Ws11 ⟨na_c_s11, hbs11⟩
      have x_d_s11 : Box Ws11 (w.heap.size) ([.slice a1 ts.length c1, .slice a2 cs.length c2]) := Box.below x_d_s5 hbs11
      have z_r_s11 : Box Ws11 (w.heap.size + 1) (id0) := Box.below z_r_s5 hbs11
      have o_t_s11 := Lib.hid (ownR_below na_t_s5.out hbs11)
      have Bs11 := below_thru Bs5 hbs11
      clear x_d_s5 z_r_s5 na_t_s5 Bs5 hbs11
      clear zls11
      refine wpAnyH_ready (rs := [3]) (by kernel_rfl) (by simp) (AllReadyH.cons rfl (fun K hK => ?_) AllReadyH.nil)
      have zz12 : w.heap.size + 2 ≤ Ws11.heap.size := (by have := (z_r_s11).lt; omega)
      refine step_append_rowsG 6 rfl rfl LT _ _ 22 rfl (w.heap.size + 2) 34 tiLT (.agg zT12.toArray) 36 56 rfl Try.underlying22 hinLT hz0LT hz1LT hz2LT rfl _ (0) _ rfl o_t_s11.out _ (ts) rfl (H1.out.below Bs11) (by unfold maxLen; have := HL.out; omega) (by have := HL.out; omega) zz12 ?_
      intro vs12 Ws12 hown hgr
      have hKB := (Below.refl (w.heap.size + 2) _).grown hgr zz12 (ownR_block o_t_s11.out)
      have x_d_s12 : Box Ws12 (w.heap.size) ([.slice a1 ts.length c1, .slice a2 cs.length c2]) := Box.keep12 x_d_s11 hKB (by omega)
      have z_r_s12 : Box Ws12 (w.heap.size + 1) (id0) := Box.keep12 z_r_s11 hKB (by omega)
      have o_c_s12 := Lib.hid (ownR_apart na_c_s11.out o_t_s11.out (by decide) hgr)
      rw [Nat.zero_add, List.nil_append] at hown
      obtain ⟨vas12, vcs12, rfl⟩ := own_slR hown
      have o_t_s12 := Lib.hid hown
      have Bs12 := (Bs11).trans (hKB.mono (by omega))
      clear x_d_s11 z_r_s11 na_c_s11 o_t_s11 Bs11 hown hgr hKB zz12
      refine hK.out _ _ x_d_s12 (fun _ => ?_); clear hK K
      refine wpAnyH_ready (rs := [7]) (by kernel_rfl) (by simp) (AllReadyH.cons rfl (fun K hK => ?_) AllReadyH.nil)
      have zz13 : w.heap.size + 2 ≤ Ws12.heap.size := (by have := (z_r_s12).lt; omega)
      refine step_append_rowsG 10 rfl rfl LC _ _ 23 rfl (w.heap.size + 2) 39 tiLC (.agg (ccell Cmd.zero).toArray) 47 136 rfl Try.underlying23 hinLC hz0LC hz1LC hz2LC rfl _ (0) _ rfl o_c_s12.out _ (cs) rfl (H2.out.below Bs12) (by unfold maxLen; have := HL.out; omega) (by have := HL.out; omega) zz13 ?_
      intro vs13 Ws13 hown hgr
      have hKB := (Below.refl (w.heap.size + 2) _).grown hgr zz13 (ownR_block o_c_s12.out)
      have x_d_s13 : Box Ws13 (w.heap.size) ([.slice a1 ts.length c1, .slice a2 cs.length c2]) := Box.keep12 x_d_s12 hKB (by omega)
      have z_r_s13 : Box Ws13 (w.heap.size + 1) (id0) := Box.keep12 z_r_s12 hKB (by omega)
      have o_t_s13 := Lib.hid (ownR_apart o_t_s12.out o_c_s12.out (by decide) hgr)
      rw [Nat.zero_add, List.nil_append] at hown
      obtain ⟨vas13, vcs13, rfl⟩ := own_slR hown
      have o_c_s13 := Lib.hid hown
      have Bs13 := (Bs12).trans (hKB.mono (by omega))
      clear x_d_s12 z_r_s12 o_t_s12 o_c_s12 Bs12 hown hgr hKB zz13
      refine hK.out _ _ x_d_s13 (fun _ => ?_); clear hK K
      refine takeH 8 11 (v := ?vs8_14) rfl (by rfl) (by kernel_rfl) (by kernel_rfl) (by kernel_rfl) (fun _ _ _ h => h) (Or.inl ⟨by rfl, ?_⟩) (x_d_s13) ?_
      rotate_left
      · intro wq hSq
        go_simp
        exact rfl
      try simp only [Act.put, List.setIfInBounds_toArray, List.set_cons_zero, List.set_cons_succ]
      refine wpAnyH_ready (rs := [9]) (by kernel_rfl) (by simp) (AllReadyH.cons rfl (fun K hK => ?_) AllReadyH.nil)
      have nz_d := (x_d_s13).lt
      refine step_store_box0 (cs := [.slice vas12 (ts.length) vcs12, .slice vas13 (cs.length) vcs13]) rfl rfl _ _ _ rfl z_r_s13 rfl rfl (size_id12 _ _) rfl (one_id12 _ _ _ _ _ _) ?_
      intro Ws15 hWs15
      have x_d_s15 : Box Ws15 (w.heap.size) ([.slice a1 ts.length c1, .slice a2 cs.length c2]) := hWs15.past _ _ (by omega) x_d_s13
      have z_r_s15 := hWs15.box
      have o_t_s15 := Lib.hid (ownR_stored hWs15 o_t_s13.out (by omega))
      have o_c_s15 := Lib.hid (ownR_stored hWs15 o_c_s13.out (by omega))
      have Bs15 := hWs15.below _ _ (by omega) Bs13
      clear nz_d x_d_s13 z_r_s13 o_t_s13 o_c_s13 Bs13 hWs15
      refine hK.out _ _ x_d_s15 (fun _ => ?_); clear hK K
      refine wpAnyH_done (by kernel_rfl) ?_ _
      go_wp2_with fail
      exact bodyPost_ret (results_box Try.results12 z_r_s15 rfl Try.underlying25 rfl (size_id12 _ _)) rfl ⟨_, _, rfl, ownR_base o_t_s15.out (by omega), ownR_base o_c_s15.out (by omega), Bs15⟩
  · skip
    have zls16 : w.heap.size + 2 ≤ Ws0.heap.size := (by have := (z_r_s0).lt; omega)
    go_simp
    refine hK.out _ _ (Box.alloc x_d_s0 _) (fun _ => ?_); clear hK K
    refine F_gen (F := fun W => wpAnyH _ _ _ _ _ _ _ _ W) (J := fun W => Hid (W.ownsRow (w.heap.size + 2) 39 47 (.slice (some ⟨Ws0.heap.size, 0, none⟩) 0 0) (0) ([])) ∧ Below Ws0.heap.size Ws0 W) (And.intro (Lib.hid (World.ownsRow_lit (base := w.heap.size + 2) (size := 47) Ws0 #[] 0 zls16 (by unfold maxLen; omega) rfl)) ((Below.refl _ _).alloc (Nat.le_refl _) _)) ?_
    intro Ws16 ⟨na_c_s16, hbs16⟩
    have x_d_s16 : Box Ws16 (w.heap.size) ([.slice a1 ts.length c1, .slice a2 cs.length c2]) := Box.below x_d_s0 hbs16
    have z_r_s16 : Box Ws16 (w.heap.size + 1) (id0) := Box.below z_r_s0 hbs16
    have Bs16 := below_thru Bs0 hbs16
    clear x_d_s0 z_r_s0 Bs0 hbs16
    clear zls16
    refine wpAnyH_ready (rs := [0]) (by kernel_rfl) (by simp) (AllReadyH.cons rfl (fun K hK => ?_) AllReadyH.nil)
    have zls17 : w.heap.size + 2 ≤ Ws16.heap.size := (by have := (z_r_s16).lt; omega)
    go_simp
    refine hK.out _ _ (Box.alloc x_d_s16 _) (fun _ => ?_); clear hK K
    refine F_gen (F := fun W => wpAnyH _ _ _ _ _ _ _ _ W) (J := fun W => Hid (W.ownsRow (w.heap.size + 2) 34 36 (.slice (some ⟨Ws16.heap.size, 0, none⟩) 0 0) (0) ([])) ∧ Below Ws16.heap.size Ws16 W) (And.intro (Lib.hid (World.ownsRow_lit (base := w.heap.size + 2) (size := 36) Ws16 #[] 0 zls17 (by unfold maxLen; omega) rfl)) ((Below.refl _ _).alloc (Nat.le_refl _) _)) ?_
    intro Ws17 ⟨na_t_s17, hbs17⟩
    have x_d_s17 : Box Ws17 (w.heap.size) ([.slice a1 ts.length c1, .slice a2 cs.length c2]) := Box.below x_d_s16 hbs17
    have z_r_s17 : Box Ws17 (w.heap.size + 1) (id0) := Box.below z_r_s16 hbs17
    have o_c_s17 := Lib.hid (ownR_below na_c_s16.out hbs17)
    have Bs17 := below_thru Bs16 hbs17
    clear x_d_s16 z_r_s16 na_c_s16 Bs16 hbs17
    clear zls17
    refine wpAnyH_ready (rs := [3]) (by kernel_rfl) (by simp) (AllReadyH.cons rfl (fun K hK => ?_) AllReadyH.nil)
    have zz18 : w.heap.size + 2 ≤ Ws17.heap.size := (by have := (z_r_s17).lt; omega)
    refine step_append_rowsG 6 rfl rfl LT _ _ 22 rfl (w.heap.size + 2) 34 tiLT (.agg zT12.toArray) 36 56 rfl Try.underlying22 hinLT hz0LT hz1LT hz2LT rfl _ (0) _ rfl na_t_s17.out _ (ts) rfl (H1.out.below Bs17) (by unfold maxLen; have := HL.out; omega) (by have := HL.out; omega) zz18 ?_
    intro vs18 Ws18 hown hgr
    have hKB := (Below.refl (w.heap.size + 2) _).grown hgr zz18 (ownR_block na_t_s17.out)
    have x_d_s18 : Box Ws18 (w.heap.size) ([.slice a1 ts.length c1, .slice a2 cs.length c2]) := Box.keep12 x_d_s17 hKB (by omega)
    have z_r_s18 : Box Ws18 (w.heap.size + 1) (id0) := Box.keep12 z_r_s17 hKB (by omega)
    have o_c_s18 := Lib.hid (ownR_apart o_c_s17.out na_t_s17.out (by decide) hgr)
    rw [Nat.zero_add, List.nil_append] at hown
    obtain ⟨vas18, vcs18, rfl⟩ := own_slR hown
    have o_t_s18 := Lib.hid hown
    have Bs18 := (Bs17).trans (hKB.mono (by omega))
    clear x_d_s17 z_r_s17 o_c_s17 na_t_s17 Bs17 hown hgr hKB zz18
    refine hK.out _ _ x_d_s18 (fun _ => ?_); clear hK K
    refine wpAnyH_ready (rs := [7]) (by kernel_rfl) (by simp) (AllReadyH.cons rfl (fun K hK => ?_) AllReadyH.nil)
    have zz19 : w.heap.size + 2 ≤ Ws18.heap.size := (by have := (z_r_s18).lt; omega)
    refine step_append_rowsG 10 rfl rfl LC _ _ 23 rfl (w.heap.size + 2) 39 tiLC (.agg (ccell Cmd.zero).toArray) 47 136 rfl Try.underlying23 hinLC hz0LC hz1LC hz2LC rfl _ (0) _ rfl o_c_s18.out _ (cs) rfl (H2.out.below Bs18) (by unfold maxLen; have := HL.out; omega) (by have := HL.out; omega) zz19 ?_
    intro vs19 Ws19 hown hgr
    have hKB := (Below.refl (w.heap.size + 2) _).grown hgr zz19 (ownR_block o_c_s18.out)
    have x_d_s19 : Box Ws19 (w.heap.size) ([.slice a1 ts.length c1, .slice a2 cs.length c2]) := Box.keep12 x_d_s18 hKB (by omega)
    have z_r_s19 : Box Ws19 (w.heap.size + 1) (id0) := Box.keep12 z_r_s18 hKB (by omega)
    have o_t_s19 := Lib.hid (ownR_apart o_t_s18.out o_c_s18.out (by decide) hgr)
    rw [Nat.zero_add, List.nil_append] at hown
    obtain ⟨vas19, vcs19, rfl⟩ := own_slR hown
    have o_c_s19 := Lib.hid hown
    have Bs19 := (Bs18).trans (hKB.mono (by omega))
    clear x_d_s18 z_r_s18 o_t_s18 o_c_s18 Bs18 hown hgr hKB zz19
    refine hK.out _ _ x_d_s19 (fun _ => ?_); clear hK K
    refine takeH 8 11 (v := ?vs8_20) rfl (by rfl) (by kernel_rfl) (by kernel_rfl) (by kernel_rfl) (fun _ _ _ h => h) (Or.inl ⟨by rfl, ?_⟩) (x_d_s19) ?_
    rotate_left
    · intro wq hSq
      go_simp
      exact rfl
    try simp only [Act.put, List.setIfInBounds_toArray, List.set_cons_zero, List.set_cons_succ]
    refine wpAnyH_ready (rs := [9]) (by kernel_rfl) (by simp) (AllReadyH.cons rfl (fun K hK => ?_) AllReadyH.nil)
    have nz_d := (x_d_s19).lt
    refine step_store_box0 (cs := [.slice vas18 (ts.length) vcs18, .slice vas19 (cs.length) vcs19]) rfl rfl _ _ _ rfl z_r_s19 rfl rfl (size_id12 _ _) rfl (one_id12 _ _ _ _ _ _) ?_
    intro Ws21 hWs21
    have x_d_s21 : Box Ws21 (w.heap.size) ([.slice a1 ts.length c1, .slice a2 cs.length c2]) := hWs21.past _ _ (by omega) x_d_s19
    have z_r_s21 := hWs21.box
    have o_t_s21 := Lib.hid (ownR_stored hWs21 o_t_s19.out (by omega))
    have o_c_s21 := Lib.hid (ownR_stored hWs21 o_c_s19.out (by omega))
    have Bs21 := hWs21.below _ _ (by omega) Bs19
    clear nz_d x_d_s19 z_r_s19 o_t_s19 o_c_s19 Bs19 hWs21
    refine hK.out _ _ x_d_s21 (fun _ => ?_); clear hK K
    refine wpAnyH_done (by kernel_rfl) ?_ _
    go_wp2_with fail
    exact bodyPost_ret (results_box Try.results12 z_r_s21 rfl Try.underlying25 rfl (size_id12 _ _)) rfl ⟨_, _, rfl, ownR_base o_t_s21.out (by omega), ownR_base o_c_s21.out (by omega), Bs21⟩

end Go.Proofs.Ytpccahdbienjeaa
