/-
  Arenas of the call's own: slices.Clone, copied, the reference's Twin.
-/
import Derived.Test.YtepimljjbmoojaaArA
namespace Go.Proofs.Ytepimljjbmoojaa
open Go.RowKit

/-- An arena of the call's own. -/
def GivesA (A : Ar) (w : World) (e : Ending) (w' : World) : Prop := ∃ a b, e = .returned (.agg #[a, b, .int .i64 A.fr]) ∧ w'.ownsRow w.heap.size 3 1 a A.nx.length (flatR LI A.nx) ∧ w'.ownsRow w.heap.size 4 1 b A.us.length (flatR LB A.us) ∧ Below w.heap.size w w'
theorem own_split {w : World} {B e B' e' s s' n n' g h : Nat} {c d : Nat} {l l' : List Value} (h1 : w.ownsRow B e s (.slice (some ⟨g, 0, none⟩) n c) n l) (h2 : w.ownsRow B' e' s' (.slice (some ⟨h, 0, none⟩) n' d) n' l') (hne : e ≠ e') : g ≠ h := by
  rcases h1.2 with ⟨q, _⟩ | ⟨g1, c1, u1, q, _, hb, _⟩
  · cases q
  · rcases h2.2 with ⟨q', _⟩ | ⟨g2, c2, u2, q', _, hb', _⟩
    · cases q'
    · cases q
      cases q'
      intro e
      subst e
      rw [hb] at hb'
      cases hb'
      exact hne rfl
/-- The rows of an arena of the call's own, as boxes. -/
theorem own_arena {w : World} {B : Nat} {a b : Value} {A : Ar} (h1 : w.ownsRow B 3 1 a A.nx.length (flatR LI A.nx)) (h2 : w.ownsRow B 4 1 b A.us.length (flatR LB A.us)) (hp : 1 ≤ A.nx.length) (hu : A.us.length = A.nx.length) :
    ∃ g c h d, a = .slice (some ⟨g, 0, none⟩) A.nx.length c ∧ b = .slice (some ⟨h, 0, none⟩) A.nx.length d ∧ B ≤ g ∧ B ≤ h ∧ g ≠ h ∧ (A.nx.length ≤ c ∧ c ≤ 9223372036854775807) ∧ (A.nx.length ≤ d ∧ d ≤ 9223372036854775807) ∧ Box w g (A.nx.map (Value.int .i64)) ∧ Box w h (A.us.map Value.bool) := by
  obtain ⟨g, c, rfl, hg, n1, n2, xg⟩ := own_box h1 (by omega)
  obtain ⟨h, d, rfl, hh, n3, n4, xh⟩ := own_box h2 (by omega)
  have := own_split h1 h2 (by decide)
  rw [flatI] at xg
  rw [flatB] at xh
  rw [hu] at n3 ⊢
  exact ⟨g, c, h, d, rfl, rfl, hg, hh, this, ⟨n1, n2⟩, ⟨n3, n4⟩, xg, xh⟩
/-- Boxes that read as an arena. -/
theorem IsA.boxes {w : World} {g c h d n : Nat} {A : Ar} {x : Int} (xg : Box w g (A.nx.map (Value.int .i64))) (xh : Box w h (A.us.map Value.bool)) (hx : x = A.fr) (h1 : A.nx.length = n) (h2 : A.us.length = n) (hc : n ≤ c ∧ c ≤ 9223372036854775807) (hd : n ≤ d ∧ d ≤ 9223372036854775807) :
    IsA w (.agg #[.slice (some ⟨g, 0, none⟩) n c, .slice (some ⟨h, 0, none⟩) n d, .int .i64 x]) A := by
  subst hx
  exact ⟨_, _, rfl, IsR.ofBoxc xg (flatI _).symm h1.symm hc.1 hc.2, IsR.ofBoxc xh (flatB _).symm h2.symm hd.1 hd.2⟩
/-- The blocks of an arena are new. -/
def Fresh (n : Nat) (v : Value) : Prop := ∃ a b c, v = .agg #[a, b, c] ∧ (∀ k, a.ownBlock = some k → n ≤ k) ∧ (∀ k, b.ownBlock = some k → n ≤ k)
/-- What Take, Give and New answer. -/
def ResA (B : Ar) (w : World) (v : Value) (w' : World) : Prop := IsA w' v B ∧ Fresh w.heap.size v ∧ Below w.heap.size w w'
theorem isA_zero (w : World) : IsA w (.agg ar0.toArray) Ar.zero := ⟨_, _, rfl, IsR.none, IsR.none⟩
theorem fresh_zero (n : Nat) : Fresh n (.agg ar0.toArray) := ⟨_, _, _, rfl, fun k h => by (cases h), fun k h => by (cases h)⟩
theorem fresh_boxes {n g h a b c d : Nat} {x : Value} (hg : n ≤ g) (hh : n ≤ h) : Fresh n (.agg #[.slice (some ⟨g, 0, none⟩) a b, .slice (some ⟨h, 0, none⟩) c d, x]) :=
  ⟨_, _, _, rfl, fun k e => by cases e; exact hg, fun k e => by cases e; exact hh⟩
theorem build_ar0 (W : World) : (Instr.build 25 #[]).run Try.prog W = .ok (.agg ar0.toArray) W := by kernel_rfl
theorem size_ar0 : (Try.prog.info? 25).map (·.size) = some ar0.length := size_ar _ _ _
theorem one_ar0 : ar0.toArray.all (·.oneCell') = true := one_ar _ _ _ _ _ _ _

theorem pcli_neq (W : World) : (binOp .eql 22 (.slice none 0 0) (.slice none 0 0)).run Try.prog W = .ok (.bool true) W := by kernel_rfl
theorem pcli_seq (ad : Addr) (n c : Nat) (W : World) : (binOp .eql 22 (.slice (some ad) n c) (.slice none 0 0)).run Try.prog W = .ok (.bool false) W := by kernel_rfl
set_option maxRecDepth 100000 in
set_option maxHeartbeats 6400000 in
theorem pcli_n {xs : List Int} (hl : xs.length ≤ 200) (w : World) (h1 : IsR LI w (.slice none 0 0) xs) : Calls Try.prog 26 #[.slice none 0 0] w fun e w' => ∃ a, e = .returned a ∧ w'.ownsRow w.heap.size 3 1 a xs.length (flatR LI xs) ∧ Below w.heap.size w w' := by
  have e1 : xs = [] := List.eq_nil_of_length_eq_zero h1.room.1.symm; subst e1; clear h1 hl
  have hB0 := Below.refl w.heap.size w; have hq := pcli_neq
  go_enter Try.func26, Try.ntmps26
  go_wp2_with fail
  go_returns
  exact ⟨_, rfl, ownR_none, hB0⟩

set_option maxRecDepth 100000 in
set_option maxHeartbeats 6400000 in
theorem pcli_s {ad : Addr} {c : Nat} {xs : List Int} (hl : xs.length ≤ 200) (w : World) (h1 : IsR LI w (.slice (some ad) xs.length c) xs) : Calls Try.prog 26 #[.slice (some ad) xs.length c] w fun e w' => ∃ a, e = .returned a ∧ w'.ownsRow w.heap.size 3 1 a xs.length (flatR LI xs) ∧ Below w.heap.size w w' := by
  obtain ⟨ti, hin, hz0, hz1, hz2⟩ := info_parts info_in
  have hq := pcli_seq ad xs.length c
  have H1 := Lib.hid h1; clear h1
  have HL := Lib.hid hl; clear hl
  have LE : (w.alloc (.cells #[] 3)).ownsRow w.heap.size 3 1 (.slice (some ⟨w.heap.size, 0, none⟩) 0 0) 0 [] := ownR_built (L := LI) (c := #[]) (n := 0) (m := 0) [] rfl rfl rfl rfl rfl (by decide)
  have XS : IsR LI (w.alloc (.cells #[] 3)) (.slice (some ad) xs.length c) xs := H1.out.alloc _
  go_enter Try.func26, Try.ntmps26
  go_wp2_with (at_builtin; refine wpList_append_rows rfl LI _ _ 22 rfl w.heap.size 3 ti (.int .i64 0) 1 8 rfl Try.underlying22 hin hz0 hz1 hz2 rfl _ 0 _ rfl LE _ xs rfl XS (by have := HL.out; unfold maxLen; omega) (by have := HL.out; omega) (by simp) ?_; intro v40 w40 own4 gr4)
  go_returns
  refine ⟨_, rfl, ?_, ?_⟩
  · have := own4
    rw [Nat.zero_add, List.nil_append] at this
    exact this
  · exact ((Below.refl _ w).alloc (Nat.le_refl _) _).grown gr4 (by simp) (ownR_block LE)

theorem pcli_is {v : Value} {xs : List Int} (hl : xs.length ≤ 200) (w : World) (h1 : IsR LI w v xs) : Calls Try.prog 26 #[v] w fun e w' => ∃ a, e = .returned a ∧ w'.ownsRow w.heap.size 3 1 a xs.length (flatR LI xs) ∧ Below w.heap.size w w' := by
  obtain ⟨a, c, rfl, hr⟩ := id h1
  cases a with
  | none =>
    have hc := hr.nil rfl
    have := hr.room
    have e : xs = [] := List.eq_nil_of_length_eq_zero (by omega)
    subst e
    subst hc
    exact pcli_n hl w h1
  | some ad => exact pcli_s hl w h1

theorem pclb_neq (W : World) : (binOp .eql 23 (.slice none 0 0) (.slice none 0 0)).run Try.prog W = .ok (.bool true) W := by kernel_rfl
theorem pclb_seq (ad : Addr) (n c : Nat) (W : World) : (binOp .eql 23 (.slice (some ad) n c) (.slice none 0 0)).run Try.prog W = .ok (.bool false) W := by kernel_rfl
set_option maxRecDepth 100000 in
set_option maxHeartbeats 6400000 in
theorem pclb_n {xs : List Bool} (hl : xs.length ≤ 200) (w : World) (h1 : IsR LB w (.slice none 0 0) xs) : Calls Try.prog 27 #[.slice none 0 0] w fun e w' => ∃ a, e = .returned a ∧ w'.ownsRow w.heap.size 4 1 a xs.length (flatR LB xs) ∧ Below w.heap.size w w' := by
  have e1 : xs = [] := List.eq_nil_of_length_eq_zero h1.room.1.symm; subst e1; clear h1 hl
  have hB0 := Below.refl w.heap.size w; have hq := pclb_neq
  go_enter Try.func27, Try.ntmps27
  go_wp2_with fail
  go_returns
  exact ⟨_, rfl, ownR_none, hB0⟩

set_option maxRecDepth 100000 in
set_option maxHeartbeats 6400000 in
theorem pclb_s {ad : Addr} {c : Nat} {xs : List Bool} (hl : xs.length ≤ 200) (w : World) (h1 : IsR LB w (.slice (some ad) xs.length c) xs) : Calls Try.prog 27 #[.slice (some ad) xs.length c] w fun e w' => ∃ a, e = .returned a ∧ w'.ownsRow w.heap.size 4 1 a xs.length (flatR LB xs) ∧ Below w.heap.size w w' := by
  obtain ⟨ti, hin, hz0, hz1, hz2⟩ := info_parts info_bl
  have hq := pclb_seq ad xs.length c
  have H1 := Lib.hid h1; clear h1
  have HL := Lib.hid hl; clear hl
  have LE : (w.alloc (.cells #[] 4)).ownsRow w.heap.size 4 1 (.slice (some ⟨w.heap.size, 0, none⟩) 0 0) 0 [] := ownR_built (L := LB) (c := #[]) (n := 0) (m := 0) [] rfl rfl rfl rfl rfl (by decide)
  have XS : IsR LB (w.alloc (.cells #[] 4)) (.slice (some ad) xs.length c) xs := H1.out.alloc _
  go_enter Try.func27, Try.ntmps27
  go_wp2_with (at_builtin; refine wpList_append_rows rfl LB _ _ 23 rfl w.heap.size 4 ti (.bool false) 1 1 rfl Try.underlying23 hin hz0 hz1 hz2 rfl _ 0 _ rfl LE _ xs rfl XS (by have := HL.out; unfold maxLen; omega) (by have := HL.out; omega) (by simp) ?_; intro v40 w40 own4 gr4)
  go_returns
  refine ⟨_, rfl, ?_, ?_⟩
  · have := own4
    rw [Nat.zero_add, List.nil_append] at this
    exact this
  · exact ((Below.refl _ w).alloc (Nat.le_refl _) _).grown gr4 (by simp) (ownR_block LE)

theorem pclb_is {v : Value} {xs : List Bool} (hl : xs.length ≤ 200) (w : World) (h1 : IsR LB w v xs) : Calls Try.prog 27 #[v] w fun e w' => ∃ a, e = .returned a ∧ w'.ownsRow w.heap.size 4 1 a xs.length (flatR LB xs) ∧ Below w.heap.size w w' := by
  obtain ⟨a, c, rfl, hr⟩ := id h1
  cases a with
  | none =>
    have hc := hr.nil rfl
    have := hr.room
    have e : xs = [] := List.eq_nil_of_length_eq_zero (by omega)
    subst e
    subst hc
    exact pclb_n hl w h1
  | some ad => exact pclb_s hl w h1

set_option maxRecDepth 100000 in
set_option maxHeartbeats 6400000 in
theorem pcop_is {v : Value} {A : Ar} (w : World) (h1 : IsA w v A) (hl : A.nx.length ≤ 200 ∧ A.us.length ≤ 200) : Calls Try.prog 22 #[v] w (GivesA A w) := by
  have HA := Lib.hid h1
  obtain ⟨v1, v2, rfl, g1, g2⟩ := id h1
  obtain ⟨a1, c1, rfl, hr1⟩ := id g1; obtain ⟨a2, c2, rfl, hr2⟩ := id g2
  have m1 := hr1.most; have r1 := hr1.room; have m2 := hr2.most; have r2 := hr2.room; have H1 := Lib.hid g1; have H2 := Lib.hid g2
  clear hr1 hr2 g1 g2 h1
  have CT := fun (W : World) (v : Value) (h : IsR LI W v A.nx) => pcli_is hl.1 W h; have CC := fun (W : World) (v : Value) (h : IsR LB W v A.us) => pclb_is hl.2 W h
  clear hl
  go_enter Try.func22, Try.ntmps22
  go_upto_region 1 with fail
  refine F_gen (F := fun W => Code.wp _ _ _ _ W) (J := fun W => Box W (w.heap.size) ([.slice a1 A.nx.length c1, .slice a2 A.us.length c2, .int .i64 A.fr]) ∧ Box W (w.heap.size + 1) (ar0) ∧ Below w.heap.size w W) (And.intro (Box.alloc (Box.newc rfl rfl) _) (And.intro (Box.newc rfl (by simp)) (by go_grown))) ?_
  intro w0 ⟨e_d, e_r, hB0⟩
  have hs0 := hB0.size
  have x_d0 := e_d; clear e_d
  have x_r0 := e_r; clear e_r
  refine wp_region_held_drew (S := fun W => Box W (w.heap.size) ([.slice a1 A.nx.length c1, .slice a2 A.us.length c2, .int .i64 A.fr])) (by kernel_rfl) (x_d0).drew (fun _ => ?_)
  refine F_drew (F := fun W => wpAnyH _ _ _ _ _ _ _ _ W) ?_
  intro Ws0 hbs0
  clear hs0
  have x_d_s0 : Box Ws0 (w.heap.size) ([.slice a1 A.nx.length c1, .slice a2 A.us.length c2, .int .i64 A.fr]) := Box.below x_d0 hbs0
  have z_r_s0 : Box Ws0 (w.heap.size + 1) (ar0) := Box.below x_r0 hbs0
  have Bs0 := below_thru hB0 hbs0
  clear x_d0 x_r0 hB0 hbs0
  refine takeH 0 3 (v := ?vs0_1) rfl (by rfl) (by kernel_rfl) (by kernel_rfl) (by kernel_rfl) (fun _ _ _ h => h) (Or.inl ⟨by rfl, ?_⟩) (x_d_s0) ?_
  rotate_left
  · intro wq hSq
    go_simp
    exact rfl
  try simp only [Act.put, List.setIfInBounds_toArray, List.set_cons_zero, List.set_cons_succ]
  refine takeH 1 4 (v := ?vs1_2) rfl (by rfl) (by kernel_rfl) (by kernel_rfl) (by kernel_rfl) (fun _ _ _ h => h) (Or.inl ⟨by rfl, ?_⟩) (x_d_s0) ?_
  rotate_left
  · intro wq hSq
    have cq := hSq.c 0 _ rfl
    have zq := lt_of_cell cq
    go_simp
    exact rfl
  try simp only [Act.put, List.setIfInBounds_toArray, List.set_cons_zero, List.set_cons_succ]
  refine takeH 3 6 (v := ?vs3_3) rfl (by rfl) (by kernel_rfl) (by kernel_rfl) (by kernel_rfl) (fun _ _ _ h => h) (Or.inl ⟨by rfl, ?_⟩) (x_d_s0) ?_
  rotate_left
  · intro wq hSq
    go_simp
    exact rfl
  try simp only [Act.put, List.setIfInBounds_toArray, List.set_cons_zero, List.set_cons_succ]
  refine takeH 4 7 (v := ?vs4_4) rfl (by rfl) (by kernel_rfl) (by kernel_rfl) (by kernel_rfl) (fun _ _ _ h => h) (Or.inl ⟨by rfl, ?_⟩) (x_d_s0) ?_
  rotate_left
  · intro wq hSq
    have cq := hSq.c 1 _ rfl
    have zq := lt_of_cell cq
    go_simp
    exact rfl
  try simp only [Act.put, List.setIfInBounds_toArray, List.set_cons_zero, List.set_cons_succ]
  refine takeH 6 9 (v := ?vs6_5) rfl (by rfl) (by kernel_rfl) (by kernel_rfl) (by kernel_rfl) (fun _ _ _ h => h) (Or.inl ⟨by rfl, ?_⟩) (x_d_s0) ?_
  rotate_left
  · intro wq hSq
    go_simp
    exact rfl
  try simp only [Act.put, List.setIfInBounds_toArray, List.set_cons_zero, List.set_cons_succ]
  refine takeH 7 10 (v := ?vs7_6) rfl (by rfl) (by kernel_rfl) (by kernel_rfl) (by kernel_rfl) (fun _ _ _ h => h) (Or.inl ⟨by rfl, ?_⟩) (x_d_s0) ?_
  rotate_left
  · intro wq hSq
    have cq := hSq.c 2 _ rfl
    have zq := lt_of_cell cq
    go_simp
    exact rfl
  try simp only [Act.put, List.setIfInBounds_toArray, List.set_cons_zero, List.set_cons_succ]
  refine wpAnyH_ready (rs := [2]) (by kernel_rfl) (by simp) (AllReadyH.cons rfl (fun K hK => ?_) AllReadyH.nil)
  go_simp
  have low7 := (z_r_s0).lt
  refine (CT _ _ (H1.out.below Bs0)).mono ?_
  rintro e Ws7 ⟨v7, rfl, on7, hbs7⟩
  have x_d_s7 : Box Ws7 (w.heap.size) ([.slice a1 A.nx.length c1, .slice a2 A.us.length c2, .int .i64 A.fr]) := Box.below x_d_s0 hbs7
  have z_r_s7 : Box Ws7 (w.heap.size + 1) (ar0) := Box.below z_r_s0 hbs7
  have Bs7 := below_thru Bs0 hbs7
  clear x_d_s0 z_r_s0 Bs0 hbs7
  have oo7 := Lib.hid (ownR_base on7 (show w.heap.size + 2 ≤ _ by have := low7; omega)); clear on7 low7
  obtain ⟨p7, n7, rfl⟩ := own_slR oo7.out
  refine hK.out _ _ x_d_s7 (fun _ => ?_); clear hK K
  refine wpAnyH_ready (rs := [5]) (by kernel_rfl) (by simp) (AllReadyH.cons rfl (fun K hK => ?_) AllReadyH.nil)
  go_simp
  have low8 := (z_r_s7).lt
  refine (CC _ _ (H2.out.below Bs7)).mono ?_
  rintro e Ws8 ⟨v8, rfl, on8, hbs8⟩
  have x_d_s8 : Box Ws8 (w.heap.size) ([.slice a1 A.nx.length c1, .slice a2 A.us.length c2, .int .i64 A.fr]) := Box.below x_d_s7 hbs8
  have z_r_s8 : Box Ws8 (w.heap.size + 1) (ar0) := Box.below z_r_s7 hbs8
  have o_t_s8 := Lib.hid (ownR_below oo7.out hbs8)
  have Bs8 := below_thru Bs7 hbs8
  clear x_d_s7 z_r_s7 oo7 Bs7 hbs8
  have oo8 := Lib.hid (ownR_base on8 (show w.heap.size + 2 ≤ _ by have := low8; omega)); clear on8 low8
  obtain ⟨p8, n8, rfl⟩ := own_slR oo8.out
  refine hK.out _ _ x_d_s8 (fun _ => ?_); clear hK K
  refine takeH 8 11 (v := ?vs8_9) rfl (by rfl) (by kernel_rfl) (by kernel_rfl) (by kernel_rfl) (fun _ _ _ h => h) (Or.inl ⟨by rfl, ?_⟩) (x_d_s8) ?_
  rotate_left
  · intro wq hSq
    go_simp
    exact rfl
  try simp only [Act.put, List.setIfInBounds_toArray, List.set_cons_zero, List.set_cons_succ]
  refine wpAnyH_ready (rs := [9]) (by kernel_rfl) (by simp) (AllReadyH.cons rfl (fun K hK => ?_) AllReadyH.nil)
  have nz_d := (x_d_s8).lt
  refine step_store_box0 (cs := [.slice p7 (A.nx.length) n7, .slice p8 (A.us.length) n8, .int .i64 A.fr]) rfl rfl _ _ _ rfl z_r_s8 rfl rfl (size_ar _ _ _) rfl (one_ar _ _ _ _ _ _ _) ?_
  intro Ws10 hWs10
  have x_d_s10 : Box Ws10 (w.heap.size) ([.slice a1 A.nx.length c1, .slice a2 A.us.length c2, .int .i64 A.fr]) := hWs10.past _ _ (by omega) x_d_s8
  have z_r_s10 := hWs10.box
  have o_t_s10 := Lib.hid (ownR_stored hWs10 o_t_s8.out (by omega))
  have o_c_s10 := Lib.hid (ownR_stored hWs10 oo8.out (by omega))
  have Bs10 := hWs10.below _ _ (by omega) Bs8
  clear nz_d x_d_s8 z_r_s8 o_t_s8 oo8 Bs8 hWs10
  refine hK.out _ _ x_d_s10 (fun _ => ?_); clear hK K
  refine wpAnyH_done (by kernel_rfl) ?_ _
  go_wp2_with fail
  exact bodyPost_ret (results_box Try.results22 z_r_s10 rfl Try.underlying25 rfl (size_ar _ _ _)) rfl ⟨_, _, rfl, ownR_base o_t_s10.out (by omega), ownR_base o_c_s10.out (by omega), Bs10⟩

set_option maxRecDepth 100000 in
set_option maxHeartbeats 6400000 in
theorem rtwin_is {v : Value} {A : Ar} (w : World) (h1 : IsA w v A) (hl : A.nx.length ≤ 200 ∧ A.us.length ≤ 200) : Calls Try.prog 9 #[v] w (GivesA A w) := by
  have HA := Lib.hid h1
  obtain ⟨v1, v2, rfl, g1, g2⟩ := id h1
  obtain ⟨a1, c1, rfl, hr1⟩ := id g1; obtain ⟨a2, c2, rfl, hr2⟩ := id g2
  have m1 := hr1.most; have r1 := hr1.room; have m2 := hr2.most; have r2 := hr2.room; have H1 := Lib.hid g1; have H2 := Lib.hid g2
  clear hr1 hr2 g1 g2 h1
  obtain ⟨tiLI, hinLI, hz0LI, hz1LI, hz2LI⟩ := info_parts info_in; obtain ⟨tiLB, hinLB, hz0LB, hz1LB, hz2LB⟩ := info_parts info_bl
  have HL := Lib.hid hl; clear hl
  go_enter Try.func9, Try.ntmps9
  go_upto_region 1 with fail
  refine F_gen (F := fun W => Code.wp _ _ _ _ W) (J := fun W => Box W (w.heap.size) ([.slice a1 A.nx.length c1, .slice a2 A.us.length c2, .int .i64 A.fr]) ∧ Box W (w.heap.size + 1) (ar0) ∧ Below w.heap.size w W) (And.intro (Box.alloc (Box.newc rfl rfl) _) (And.intro (Box.newc rfl (by simp)) (by go_grown))) ?_
  intro w0 ⟨e_d, e_r, hB0⟩
  have hs0 := hB0.size
  have x_d0 := e_d; clear e_d
  have x_r0 := e_r; clear e_r
  refine wp_region_held_drew (S := fun W => Box W (w.heap.size) ([.slice a1 A.nx.length c1, .slice a2 A.us.length c2, .int .i64 A.fr])) (by kernel_rfl) (x_d0).drew (fun _ => ?_)
  refine F_drew (F := fun W => wpAnyH _ _ _ _ _ _ _ _ W) ?_
  intro Ws0 hbs0
  clear hs0
  have x_d_s0 : Box Ws0 (w.heap.size) ([.slice a1 A.nx.length c1, .slice a2 A.us.length c2, .int .i64 A.fr]) := Box.below x_d0 hbs0
  have z_r_s0 : Box Ws0 (w.heap.size + 1) (ar0) := Box.below x_r0 hbs0
  have Bs0 := below_thru hB0 hbs0
  clear x_d0 x_r0 hB0 hbs0
  refine takeH 1 4 (v := ?vs1_1) rfl (by rfl) (by kernel_rfl) (by kernel_rfl) (by kernel_rfl) (fun _ _ _ h => h) (Or.inl ⟨by rfl, ?_⟩) (x_d_s0) ?_
  rotate_left
  · intro wq hSq
    go_simp
    exact rfl
  try simp only [Act.put, List.setIfInBounds_toArray, List.set_cons_zero, List.set_cons_succ]
  refine takeH 2 5 (v := ?vs2_2) rfl (by rfl) (by kernel_rfl) (by kernel_rfl) (by kernel_rfl) (fun _ _ _ h => h) (Or.inl ⟨by rfl, ?_⟩) (x_d_s0) ?_
  rotate_left
  · intro wq hSq
    have cq := hSq.c 0 _ rfl
    have zq := lt_of_cell cq
    go_simp
    exact rfl
  try simp only [Act.put, List.setIfInBounds_toArray, List.set_cons_zero, List.set_cons_succ]
  refine takeH 5 8 (v := ?vs5_3) rfl (by rfl) (by kernel_rfl) (by kernel_rfl) (by kernel_rfl) (fun _ _ _ h => h) (Or.inl ⟨by rfl, ?_⟩) (x_d_s0) ?_
  rotate_left
  · intro wq hSq
    go_simp
    exact rfl
  try simp only [Act.put, List.setIfInBounds_toArray, List.set_cons_zero, List.set_cons_succ]
  refine takeH 6 9 (v := ?vs6_4) rfl (by rfl) (by kernel_rfl) (by kernel_rfl) (by kernel_rfl) (fun _ _ _ h => h) (Or.inl ⟨by rfl, ?_⟩) (x_d_s0) ?_
  rotate_left
  · intro wq hSq
    have cq := hSq.c 1 _ rfl
    have zq := lt_of_cell cq
    go_simp
    exact rfl
  try simp only [Act.put, List.setIfInBounds_toArray, List.set_cons_zero, List.set_cons_succ]
  refine takeH 8 11 (v := ?vs8_5) rfl (by rfl) (by kernel_rfl) (by kernel_rfl) (by kernel_rfl) (fun _ _ _ h => h) (Or.inl ⟨by rfl, ?_⟩) (x_d_s0) ?_
  rotate_left
  · intro wq hSq
    go_simp
    exact rfl
  try simp only [Act.put, List.setIfInBounds_toArray, List.set_cons_zero, List.set_cons_succ]
  refine takeH 9 12 (v := ?vs9_6) rfl (by rfl) (by kernel_rfl) (by kernel_rfl) (by kernel_rfl) (fun _ _ _ h => h) (Or.inl ⟨by rfl, ?_⟩) (x_d_s0) ?_
  rotate_left
  · intro wq hSq
    have cq := hSq.c 2 _ rfl
    have zq := lt_of_cell cq
    go_simp
    exact rfl
  try simp only [Act.put, List.setIfInBounds_toArray, List.set_cons_zero, List.set_cons_succ]
  refine wpAnyH_ready (rs := [0, 4]) (by kernel_rfl) (by simp) (AllReadyH.cons rfl (fun K hK => ?_) (AllReadyH.cons rfl (fun K hK => ?_) AllReadyH.nil))
  · skip
    have zls7 : w.heap.size + 2 ≤ Ws0.heap.size := (by have := (z_r_s0).lt; omega)
    go_simp
    refine hK.out _ _ (Box.alloc x_d_s0 _) (fun _ => ?_); clear hK K
    refine F_gen (F := fun W => wpAnyH _ _ _ _ _ _ _ _ W) (J := fun W => Hid (W.ownsRow (w.heap.size + 2) 3 1 (.slice (some ⟨Ws0.heap.size, 0, none⟩) 0 0) (0) ([])) ∧ Below Ws0.heap.size Ws0 W) (And.intro (Lib.hid (World.ownsRow_lit (base := w.heap.size + 2) (size := 1) Ws0 #[] 0 zls7 (by unfold maxLen; omega) rfl)) ((Below.refl _ _).alloc (Nat.le_refl _) _)) ?_
    intro Ws7 ⟨na_t_s7, hbs7⟩
    have x_d_s7 : Box Ws7 (w.heap.size) ([.slice a1 A.nx.length c1, .slice a2 A.us.length c2, .int .i64 A.fr]) := Box.below x_d_s0 hbs7
    have z_r_s7 : Box Ws7 (w.heap.size + 1) (ar0) := Box.below z_r_s0 hbs7
    have Bs7 := below_thru Bs0 hbs7
    clear x_d_s0 z_r_s0 Bs0 hbs7
    clear zls7
    refine wpAnyH_ready (rs := [3, 4]) (by kernel_rfl) (by simp) (AllReadyH.cons rfl (fun K hK => ?_) (AllReadyH.cons rfl (fun K hK => ?_) AllReadyH.nil))
    · skip
      have zz8 : w.heap.size + 2 ≤ Ws7.heap.size := (by have := (z_r_s7).lt; omega)
      refine step_append_rowsG 6 rfl rfl LI _ _ 22 rfl (w.heap.size + 2) 3 tiLI (.int .i64 0) 1 8 rfl Try.underlying22 hinLI hz0LI hz1LI hz2LI rfl _ (0) _ rfl na_t_s7.out _ (A.nx) rfl (H1.out.below Bs7) (by unfold maxLen; have := HL.out; omega) (by have := HL.out; omega) zz8 ?_
      intro vs8 Ws8 hown hgr
      have hKB := (Below.refl (w.heap.size + 2) _).grown hgr zz8 (ownR_block na_t_s7.out)
      have x_d_s8 : Box Ws8 (w.heap.size) ([.slice a1 A.nx.length c1, .slice a2 A.us.length c2, .int .i64 A.fr]) := Box.keep12 x_d_s7 hKB (by omega)
      have z_r_s8 : Box Ws8 (w.heap.size + 1) (ar0) := Box.keep12 z_r_s7 hKB (by omega)
      rw [Nat.zero_add, List.nil_append] at hown
      obtain ⟨vas8, vcs8, rfl⟩ := own_slR hown
      have o_t_s8 := Lib.hid hown
      have Bs8 := (Bs7).trans (hKB.mono (by omega))
      clear x_d_s7 z_r_s7 na_t_s7 Bs7 hown hgr hKB zz8
      refine hK.out _ _ x_d_s8 (fun _ => ?_); clear hK K
      refine wpAnyH_ready (rs := [4]) (by kernel_rfl) (by simp) (AllReadyH.cons rfl (fun K hK => ?_) AllReadyH.nil)
      have zls9 : w.heap.size + 2 ≤ Ws8.heap.size := (by have := (z_r_s8).lt; omega)
      go_simp
      refine hK.out _ _ (Box.alloc x_d_s8 _) (fun _ => ?_); clear hK K
      refine F_gen (F := fun W => wpAnyH _ _ _ _ _ _ _ _ W) (J := fun W => Hid (W.ownsRow (w.heap.size + 2) 4 1 (.slice (some ⟨Ws8.heap.size, 0, none⟩) 0 0) (0) ([])) ∧ Below Ws8.heap.size Ws8 W) (And.intro (Lib.hid (World.ownsRow_lit (base := w.heap.size + 2) (size := 1) Ws8 #[] 0 zls9 (by unfold maxLen; omega) rfl)) ((Below.refl _ _).alloc (Nat.le_refl _) _)) ?_
      intro Ws9 ⟨na_c_s9, hbs9⟩
      have x_d_s9 : Box Ws9 (w.heap.size) ([.slice a1 A.nx.length c1, .slice a2 A.us.length c2, .int .i64 A.fr]) := Box.below x_d_s8 hbs9
      have z_r_s9 : Box Ws9 (w.heap.size + 1) (ar0) := Box.below z_r_s8 hbs9
      have o_t_s9 := Lib.hid (ownR_below o_t_s8.out hbs9)
      have Bs9 := below_thru Bs8 hbs9
      clear x_d_s8 z_r_s8 o_t_s8 Bs8 hbs9
      clear zls9
      refine wpAnyH_ready (rs := [7]) (by kernel_rfl) (by simp) (AllReadyH.cons rfl (fun K hK => ?_) AllReadyH.nil)
      have zz10 : w.heap.size + 2 ≤ Ws9.heap.size := (by have := (z_r_s9).lt; omega)
      refine step_append_rowsG 10 rfl rfl LB _ _ 23 rfl (w.heap.size + 2) 4 tiLB (.bool false) 1 1 rfl Try.underlying23 hinLB hz0LB hz1LB hz2LB rfl _ (0) _ rfl na_c_s9.out _ (A.us) rfl (H2.out.below Bs9) (by unfold maxLen; have := HL.out; omega) (by have := HL.out; omega) zz10 ?_
      intro vs10 Ws10 hown hgr
      have hKB := (Below.refl (w.heap.size + 2) _).grown hgr zz10 (ownR_block na_c_s9.out)
      have x_d_s10 : Box Ws10 (w.heap.size) ([.slice a1 A.nx.length c1, .slice a2 A.us.length c2, .int .i64 A.fr]) := Box.keep12 x_d_s9 hKB (by omega)
      have z_r_s10 : Box Ws10 (w.heap.size + 1) (ar0) := Box.keep12 z_r_s9 hKB (by omega)
      have o_t_s10 := Lib.hid (ownR_apart o_t_s9.out na_c_s9.out (by decide) hgr)
      rw [Nat.zero_add, List.nil_append] at hown
      obtain ⟨vas10, vcs10, rfl⟩ := own_slR hown
      have o_c_s10 := Lib.hid hown
      have Bs10 := (Bs9).trans (hKB.mono (by omega))
      clear x_d_s9 z_r_s9 o_t_s9 na_c_s9 Bs9 hown hgr hKB zz10
      refine hK.out _ _ x_d_s10 (fun _ => ?_); clear hK K
      refine takeH 10 13 (v := ?vs10_11) rfl (by rfl) (by kernel_rfl) (by kernel_rfl) (by kernel_rfl) (fun _ _ _ h => h) (Or.inl ⟨by rfl, ?_⟩) (x_d_s10) ?_
      rotate_left
      · intro wq hSq
        go_simp
        exact rfl
      try simp only [Act.put, List.setIfInBounds_toArray, List.set_cons_zero, List.set_cons_succ]
      refine wpAnyH_ready (rs := [11]) (by kernel_rfl) (by simp) (AllReadyH.cons rfl (fun K hK => ?_) AllReadyH.nil)
      have nz_d := (x_d_s10).lt
      refine step_store_box0 (cs := [.slice vas8 (A.nx.length) vcs8, .slice vas10 (A.us.length) vcs10, .int .i64 A.fr]) rfl rfl _ _ _ rfl z_r_s10 rfl rfl (size_ar _ _ _) rfl (one_ar _ _ _ _ _ _ _) ?_
      intro Ws12 hWs12
      have x_d_s12 : Box Ws12 (w.heap.size) ([.slice a1 A.nx.length c1, .slice a2 A.us.length c2, .int .i64 A.fr]) := hWs12.past _ _ (by omega) x_d_s10
      have z_r_s12 := hWs12.box
      have o_t_s12 := Lib.hid (ownR_stored hWs12 o_t_s10.out (by omega))
      have o_c_s12 := Lib.hid (ownR_stored hWs12 o_c_s10.out (by omega))
      have Bs12 := hWs12.below _ _ (by omega) Bs10
      clear nz_d x_d_s10 z_r_s10 o_t_s10 o_c_s10 Bs10 hWs12
      refine hK.out _ _ x_d_s12 (fun _ => ?_); clear hK K
      refine wpAnyH_done (by kernel_rfl) ?_ _
      go_wp2_with fail
      exact bodyPost_ret (results_box Try.results9 z_r_s12 rfl Try.underlying25 rfl (size_ar _ _ _)) rfl ⟨_, _, rfl, ownR_base o_t_s12.out (by omega), ownR_base o_c_s12.out (by omega), Bs12⟩
    · skip
      have zls13 : w.heap.size + 2 ≤ Ws7.heap.size := (by have := (z_r_s7).lt; omega)
      go_simp
      refine hK.out _ _ (Box.alloc x_d_s7 _) (fun _ => ?_); clear hK K
      refine F_gen (F := fun W => wpAnyH _ _ _ _ _ _ _ _ W) (J := fun W => Hid (W.ownsRow (w.heap.size + 2) 4 1 (.slice (some ⟨Ws7.heap.size, 0, none⟩) 0 0) (0) ([])) ∧ Below Ws7.heap.size Ws7 W) (And.intro (Lib.hid (World.ownsRow_lit (base := w.heap.size + 2) (size := 1) Ws7 #[] 0 zls13 (by unfold maxLen; omega) rfl)) ((Below.refl _ _).alloc (Nat.le_refl _) _)) ?_
      intro Ws13 ⟨na_c_s13, hbs13⟩
      have x_d_s13 : Box Ws13 (w.heap.size) ([.slice a1 A.nx.length c1, .slice a2 A.us.length c2, .int .i64 A.fr]) := Box.below x_d_s7 hbs13
      have z_r_s13 : Box Ws13 (w.heap.size + 1) (ar0) := Box.below z_r_s7 hbs13
      have o_t_s13 := Lib.hid (ownR_below na_t_s7.out hbs13)
      have Bs13 := below_thru Bs7 hbs13
      clear x_d_s7 z_r_s7 na_t_s7 Bs7 hbs13
      clear zls13
      refine wpAnyH_ready (rs := [3]) (by kernel_rfl) (by simp) (AllReadyH.cons rfl (fun K hK => ?_) AllReadyH.nil)
      have zz14 : w.heap.size + 2 ≤ Ws13.heap.size := (by have := (z_r_s13).lt; omega)
      refine step_append_rowsG 6 rfl rfl LI _ _ 22 rfl (w.heap.size + 2) 3 tiLI (.int .i64 0) 1 8 rfl Try.underlying22 hinLI hz0LI hz1LI hz2LI rfl _ (0) _ rfl o_t_s13.out _ (A.nx) rfl (H1.out.below Bs13) (by unfold maxLen; have := HL.out; omega) (by have := HL.out; omega) zz14 ?_
      intro vs14 Ws14 hown hgr
      have hKB := (Below.refl (w.heap.size + 2) _).grown hgr zz14 (ownR_block o_t_s13.out)
      have x_d_s14 : Box Ws14 (w.heap.size) ([.slice a1 A.nx.length c1, .slice a2 A.us.length c2, .int .i64 A.fr]) := Box.keep12 x_d_s13 hKB (by omega)
      have z_r_s14 : Box Ws14 (w.heap.size + 1) (ar0) := Box.keep12 z_r_s13 hKB (by omega)
      have o_c_s14 := Lib.hid (ownR_apart na_c_s13.out o_t_s13.out (by decide) hgr)
      rw [Nat.zero_add, List.nil_append] at hown
      obtain ⟨vas14, vcs14, rfl⟩ := own_slR hown
      have o_t_s14 := Lib.hid hown
      have Bs14 := (Bs13).trans (hKB.mono (by omega))
      clear x_d_s13 z_r_s13 na_c_s13 o_t_s13 Bs13 hown hgr hKB zz14
      refine hK.out _ _ x_d_s14 (fun _ => ?_); clear hK K
      refine wpAnyH_ready (rs := [7]) (by kernel_rfl) (by simp) (AllReadyH.cons rfl (fun K hK => ?_) AllReadyH.nil)
      have zz15 : w.heap.size + 2 ≤ Ws14.heap.size := (by have := (z_r_s14).lt; omega)
      refine step_append_rowsG 10 rfl rfl LB _ _ 23 rfl (w.heap.size + 2) 4 tiLB (.bool false) 1 1 rfl Try.underlying23 hinLB hz0LB hz1LB hz2LB rfl _ (0) _ rfl o_c_s14.out _ (A.us) rfl (H2.out.below Bs14) (by unfold maxLen; have := HL.out; omega) (by have := HL.out; omega) zz15 ?_
      intro vs15 Ws15 hown hgr
      have hKB := (Below.refl (w.heap.size + 2) _).grown hgr zz15 (ownR_block o_c_s14.out)
      have x_d_s15 : Box Ws15 (w.heap.size) ([.slice a1 A.nx.length c1, .slice a2 A.us.length c2, .int .i64 A.fr]) := Box.keep12 x_d_s14 hKB (by omega)
      have z_r_s15 : Box Ws15 (w.heap.size + 1) (ar0) := Box.keep12 z_r_s14 hKB (by omega)
      have o_t_s15 := Lib.hid (ownR_apart o_t_s14.out o_c_s14.out (by decide) hgr)
      rw [Nat.zero_add, List.nil_append] at hown
      obtain ⟨vas15, vcs15, rfl⟩ := own_slR hown
      have o_c_s15 := Lib.hid hown
      have Bs15 := (Bs14).trans (hKB.mono (by omega))
      clear x_d_s14 z_r_s14 o_t_s14 o_c_s14 Bs14 hown hgr hKB zz15
      refine hK.out _ _ x_d_s15 (fun _ => ?_); clear hK K
      refine takeH 10 13 (v := ?vs10_16) rfl (by rfl) (by kernel_rfl) (by kernel_rfl) (by kernel_rfl) (fun _ _ _ h => h) (Or.inl ⟨by rfl, ?_⟩) (x_d_s15) ?_
      rotate_left
      · intro wq hSq
        go_simp
        exact rfl
      try simp only [Act.put, List.setIfInBounds_toArray, List.set_cons_zero, List.set_cons_succ]
      refine wpAnyH_ready (rs := [11]) (by kernel_rfl) (by simp) (AllReadyH.cons rfl (fun K hK => ?_) AllReadyH.nil)
      have nz_d := (x_d_s15).lt
      refine step_store_box0 (cs := [.slice vas14 (A.nx.length) vcs14, .slice vas15 (A.us.length) vcs15, .int .i64 A.fr]) rfl rfl _ _ _ rfl z_r_s15 rfl rfl (size_ar _ _ _) rfl (one_ar _ _ _ _ _ _ _) ?_
      intro Ws17 hWs17
      have x_d_s17 : Box Ws17 (w.heap.size) ([.slice a1 A.nx.length c1, .slice a2 A.us.length c2, .int .i64 A.fr]) := hWs17.past _ _ (by omega) x_d_s15
      have z_r_s17 := hWs17.box
      have o_t_s17 := Lib.hid (ownR_stored hWs17 o_t_s15.out (by omega))
      have o_c_s17 := Lib.hid (ownR_stored hWs17 o_c_s15.out (by omega))
      have Bs17 := hWs17.below _ _ (by omega) Bs15
      clear nz_d x_d_s15 z_r_s15 o_t_s15 o_c_s15 Bs15 hWs17
      refine hK.out _ _ x_d_s17 (fun _ => ?_); clear hK K
      refine wpAnyH_done (by kernel_rfl) ?_ _
      go_wp2_with fail
      exact bodyPost_ret (results_box Try.results9 z_r_s17 rfl Try.underlying25 rfl (size_ar _ _ _)) rfl ⟨_, _, rfl, ownR_base o_t_s17.out (by omega), ownR_base o_c_s17.out (by omega), Bs17⟩
  · skip
    have zls18 : w.heap.size + 2 ≤ Ws0.heap.size := (by have := (z_r_s0).lt; omega)
    go_simp
    refine hK.out _ _ (Box.alloc x_d_s0 _) (fun _ => ?_); clear hK K
    refine F_gen (F := fun W => wpAnyH _ _ _ _ _ _ _ _ W) (J := fun W => Hid (W.ownsRow (w.heap.size + 2) 4 1 (.slice (some ⟨Ws0.heap.size, 0, none⟩) 0 0) (0) ([])) ∧ Below Ws0.heap.size Ws0 W) (And.intro (Lib.hid (World.ownsRow_lit (base := w.heap.size + 2) (size := 1) Ws0 #[] 0 zls18 (by unfold maxLen; omega) rfl)) ((Below.refl _ _).alloc (Nat.le_refl _) _)) ?_
    intro Ws18 ⟨na_c_s18, hbs18⟩
    have x_d_s18 : Box Ws18 (w.heap.size) ([.slice a1 A.nx.length c1, .slice a2 A.us.length c2, .int .i64 A.fr]) := Box.below x_d_s0 hbs18
    have z_r_s18 : Box Ws18 (w.heap.size + 1) (ar0) := Box.below z_r_s0 hbs18
    have Bs18 := below_thru Bs0 hbs18
    clear x_d_s0 z_r_s0 Bs0 hbs18
    clear zls18
    refine wpAnyH_ready (rs := [0]) (by kernel_rfl) (by simp) (AllReadyH.cons rfl (fun K hK => ?_) AllReadyH.nil)
    have zls19 : w.heap.size + 2 ≤ Ws18.heap.size := (by have := (z_r_s18).lt; omega)
    go_simp
    refine hK.out _ _ (Box.alloc x_d_s18 _) (fun _ => ?_); clear hK K
    refine F_gen (F := fun W => wpAnyH _ _ _ _ _ _ _ _ W) (J := fun W => Hid (W.ownsRow (w.heap.size + 2) 3 1 (.slice (some ⟨Ws18.heap.size, 0, none⟩) 0 0) (0) ([])) ∧ Below Ws18.heap.size Ws18 W) (And.intro (Lib.hid (World.ownsRow_lit (base := w.heap.size + 2) (size := 1) Ws18 #[] 0 zls19 (by unfold maxLen; omega) rfl)) ((Below.refl _ _).alloc (Nat.le_refl _) _)) ?_
    intro Ws19 ⟨na_t_s19, hbs19⟩
    have x_d_s19 : Box Ws19 (w.heap.size) ([.slice a1 A.nx.length c1, .slice a2 A.us.length c2, .int .i64 A.fr]) := Box.below x_d_s18 hbs19
    have z_r_s19 : Box Ws19 (w.heap.size + 1) (ar0) := Box.below z_r_s18 hbs19
    have o_c_s19 := Lib.hid (ownR_below na_c_s18.out hbs19)
    have Bs19 := below_thru Bs18 hbs19
    clear x_d_s18 z_r_s18 na_c_s18 Bs18 hbs19
    clear zls19
    refine wpAnyH_ready (rs := [3]) (by kernel_rfl) (by simp) (AllReadyH.cons rfl (fun K hK => ?_) AllReadyH.nil)
    have zz20 : w.heap.size + 2 ≤ Ws19.heap.size := (by have := (z_r_s19).lt; omega)
    refine step_append_rowsG 6 rfl rfl LI _ _ 22 rfl (w.heap.size + 2) 3 tiLI (.int .i64 0) 1 8 rfl Try.underlying22 hinLI hz0LI hz1LI hz2LI rfl _ (0) _ rfl na_t_s19.out _ (A.nx) rfl (H1.out.below Bs19) (by unfold maxLen; have := HL.out; omega) (by have := HL.out; omega) zz20 ?_
    intro vs20 Ws20 hown hgr
    have hKB := (Below.refl (w.heap.size + 2) _).grown hgr zz20 (ownR_block na_t_s19.out)
    have x_d_s20 : Box Ws20 (w.heap.size) ([.slice a1 A.nx.length c1, .slice a2 A.us.length c2, .int .i64 A.fr]) := Box.keep12 x_d_s19 hKB (by omega)
    have z_r_s20 : Box Ws20 (w.heap.size + 1) (ar0) := Box.keep12 z_r_s19 hKB (by omega)
    have o_c_s20 := Lib.hid (ownR_apart o_c_s19.out na_t_s19.out (by decide) hgr)
    rw [Nat.zero_add, List.nil_append] at hown
    obtain ⟨vas20, vcs20, rfl⟩ := own_slR hown
    have o_t_s20 := Lib.hid hown
    have Bs20 := (Bs19).trans (hKB.mono (by omega))
    clear x_d_s19 z_r_s19 o_c_s19 na_t_s19 Bs19 hown hgr hKB zz20
    refine hK.out _ _ x_d_s20 (fun _ => ?_); clear hK K
    refine wpAnyH_ready (rs := [7]) (by kernel_rfl) (by simp) (AllReadyH.cons rfl (fun K hK => ?_) AllReadyH.nil)
    have zz21 : w.heap.size + 2 ≤ Ws20.heap.size := (by have := (z_r_s20).lt; omega)
    refine step_append_rowsG 10 rfl rfl LB _ _ 23 rfl (w.heap.size + 2) 4 tiLB (.bool false) 1 1 rfl Try.underlying23 hinLB hz0LB hz1LB hz2LB rfl _ (0) _ rfl o_c_s20.out _ (A.us) rfl (H2.out.below Bs20) (by unfold maxLen; have := HL.out; omega) (by have := HL.out; omega) zz21 ?_
    intro vs21 Ws21 hown hgr
    have hKB := (Below.refl (w.heap.size + 2) _).grown hgr zz21 (ownR_block o_c_s20.out)
    have x_d_s21 : Box Ws21 (w.heap.size) ([.slice a1 A.nx.length c1, .slice a2 A.us.length c2, .int .i64 A.fr]) := Box.keep12 x_d_s20 hKB (by omega)
    have z_r_s21 : Box Ws21 (w.heap.size + 1) (ar0) := Box.keep12 z_r_s20 hKB (by omega)
    have o_t_s21 := Lib.hid (ownR_apart o_t_s20.out o_c_s20.out (by decide) hgr)
    rw [Nat.zero_add, List.nil_append] at hown
    obtain ⟨vas21, vcs21, rfl⟩ := own_slR hown
    have o_c_s21 := Lib.hid hown
    have Bs21 := (Bs20).trans (hKB.mono (by omega))
    clear x_d_s20 z_r_s20 o_t_s20 o_c_s20 Bs20 hown hgr hKB zz21
    refine hK.out _ _ x_d_s21 (fun _ => ?_); clear hK K
    refine takeH 10 13 (v := ?vs10_22) rfl (by rfl) (by kernel_rfl) (by kernel_rfl) (by kernel_rfl) (fun _ _ _ h => h) (Or.inl ⟨by rfl, ?_⟩) (x_d_s21) ?_
    rotate_left
    · intro wq hSq
      go_simp
      exact rfl
    try simp only [Act.put, List.setIfInBounds_toArray, List.set_cons_zero, List.set_cons_succ]
    refine wpAnyH_ready (rs := [11]) (by kernel_rfl) (by simp) (AllReadyH.cons rfl (fun K hK => ?_) AllReadyH.nil)
    have nz_d := (x_d_s21).lt
    refine step_store_box0 (cs := [.slice vas20 (A.nx.length) vcs20, .slice vas21 (A.us.length) vcs21, .int .i64 A.fr]) rfl rfl _ _ _ rfl z_r_s21 rfl rfl (size_ar _ _ _) rfl (one_ar _ _ _ _ _ _ _) ?_
    intro Ws23 hWs23
    have x_d_s23 : Box Ws23 (w.heap.size) ([.slice a1 A.nx.length c1, .slice a2 A.us.length c2, .int .i64 A.fr]) := hWs23.past _ _ (by omega) x_d_s21
    have z_r_s23 := hWs23.box
    have o_t_s23 := Lib.hid (ownR_stored hWs23 o_t_s21.out (by omega))
    have o_c_s23 := Lib.hid (ownR_stored hWs23 o_c_s21.out (by omega))
    have Bs23 := hWs23.below _ _ (by omega) Bs21
    clear nz_d x_d_s21 z_r_s21 o_t_s21 o_c_s21 Bs21 hWs23
    refine hK.out _ _ x_d_s23 (fun _ => ?_); clear hK K
    refine wpAnyH_done (by kernel_rfl) ?_ _
    go_wp2_with fail
    exact bodyPost_ret (results_box Try.results9 z_r_s23 rfl Try.underlying25 rfl (size_ar _ _ _)) rfl ⟨_, _, rfl, ownR_base o_t_s23.out (by omega), ownR_base o_c_s23.out (by omega), Bs23⟩

end Go.Proofs.Ytepimljjbmoojaa
