/-
  Orders of the call's own: New, copied, the reference's Twin.
-/
import Derived.Test.YtjhlpkkefdohjaaLrB
import Derived.Test.YtjhlpkkefdohjaaApart
namespace Go.Proofs.Ytjhlpkkefdohjaa
open Go.RowKit

/-- An order of the call's own. -/
def GivesO (O : Od) (w : World) (e : Ending) (w' : World) : Prop := ∃ a b, e = .returned (.agg #[a, b, .int .i64 O.hd, .int .i64 O.tl]) ∧ w'.ownsRow w.heap.size 3 1 a O.pv.length (flatR LI O.pv) ∧ w'.ownsRow w.heap.size 3 1 b O.nx.length (flatR LI O.nx) ∧ ApartB a b ∧ Below w.heap.size w w'
/-- The rows of an order of the call's own, as boxes. -/
theorem own_order {w : World} {B n : Nat} {a b : Value} {xs ys : List Int} (h1 : w.ownsRow B 3 1 a n (flatR LI xs)) (h2 : w.ownsRow B 3 1 b n (flatR LI ys)) (ha : ApartB a b) (hp : 1 ≤ n) :
    ∃ g c h d, a = .slice (some ⟨g, 0, none⟩) n c ∧ b = .slice (some ⟨h, 0, none⟩) n d ∧ B ≤ g ∧ B ≤ h ∧ g ≠ h ∧ (n ≤ c ∧ c ≤ 9223372036854775807) ∧ (n ≤ d ∧ d ≤ 9223372036854775807) ∧ Box w g (xs.map (Value.int .i64)) ∧ Box w h (ys.map (Value.int .i64)) := by
  obtain ⟨g, c, rfl, hg, n1, n2, xg⟩ := own_box h1 (by omega)
  obtain ⟨h, d, rfl, hh, n3, n4, xh⟩ := own_box h2 (by omega)
  rw [flatI] at xg xh
  exact ⟨g, c, h, d, rfl, rfl, hg, hh, ha.ne, ⟨n1, n2⟩, ⟨n3, n4⟩, xg, xh⟩
/-- Boxes that read as an order. -/
theorem IsO.boxes {w : World} {g c h d n : Nat} {O : Od} {x y : Int} (xg : Box w g (O.pv.map (Value.int .i64))) (xh : Box w h (O.nx.map (Value.int .i64))) (hx : x = O.hd) (hy : y = O.tl) (h1 : O.pv.length = n) (h2 : O.nx.length = n) (hc : n ≤ c ∧ c ≤ 9223372036854775807) (hd : n ≤ d ∧ d ≤ 9223372036854775807) :
    IsO w (.agg #[.slice (some ⟨g, 0, none⟩) n c, .slice (some ⟨h, 0, none⟩) n d, .int .i64 x, .int .i64 y]) O := by
  subst hx hy
  exact ⟨_, _, rfl, IsR.ofBoxc xg (flatI _).symm h1.symm hc.1 hc.2, IsR.ofBoxc xh (flatI _).symm h2.symm hd.1 hd.2⟩
/-- The blocks of an order are new. -/
def FreshO (n : Nat) (v : Value) : Prop := ∃ a b c d, v = .agg #[a, b, c, d] ∧ (∀ k, a.ownBlock = some k → n ≤ k) ∧ (∀ k, b.ownBlock = some k → n ≤ k)
/-- What New, Touch and Remove answer. -/
def ResO (R : Od) (w : World) (v : Value) (w' : World) : Prop := IsO w' v R ∧ FreshO w.heap.size v ∧ Below w.heap.size w w'
theorem isO_zero (w : World) : IsO w (.agg od0.toArray) Od.zero := ⟨_, _, rfl, IsR.none, IsR.none⟩
theorem freshO_zero (n : Nat) : FreshO n (.agg od0.toArray) := ⟨_, _, _, _, rfl, fun k h => by (cases h), fun k h => by (cases h)⟩
theorem freshO_boxes {n g h a b c d : Nat} {x y : Value} (hg : n ≤ g) (hh : n ≤ h) : FreshO n (.agg #[.slice (some ⟨g, 0, none⟩) a b, .slice (some ⟨h, 0, none⟩) c d, x, y]) :=
  ⟨_, _, _, _, rfl, fun k e => by cases e; exact hg, fun k e => by cases e; exact hh⟩
theorem resO_own {O : Od} {w w' : World} {a b : Value} {n m : Nat} {xs ys : List Int} {x y : Int} (h1 : w'.ownsRow w.heap.size 3 1 a n (flatR LI xs)) (h2 : w'.ownsRow w.heap.size 3 1 b m (flatR LI ys)) (hn : n = xs.length) (hm : m = ys.length) (e1 : O.pv = xs) (e2 : O.nx = ys) (e3 : O.hd = x) (e4 : O.tl = y) (hb : Below w.heap.size w w') : ResO O w (.agg #[a, b, .int .i64 x, .int .i64 y]) w' := by
  subst e3 e4
  exact ⟨⟨a, b, rfl, by rw [e1]; exact IsR.own h1 rfl hn, by rw [e2]; exact IsR.own h2 rfl hm⟩, ⟨_, _, _, _, rfl, ownR_block h1, ownR_block h2⟩, hb⟩
theorem GivesO.res {O : Od} {w : World} {e : Ending} {w' : World} (h : GivesO O w e w') : ∃ v, e = .returned v ∧ ResO O w v w' := by
  obtain ⟨a, b, he, h1, h2, _, hb⟩ := h
  exact ⟨_, he, ⟨a, b, rfl, IsR.own h1 rfl rfl, IsR.own h2 rfl rfl⟩, ⟨_, _, _, _, rfl, ownR_block h1, ownR_block h2⟩, hb⟩
theorem build_od0 (W : World) : (Instr.build 24 #[]).run Try.prog W = .ok (.agg od0.toArray) W := by kernel_rfl
theorem size_od0 : (Try.prog.info? 24).map (·.size) = some od0.length := size_od _ _ _ _
theorem one_od0 : od0.toArray.all (·.oneCell') = true := one_od _ _ _ _ _ _ _ _
theorem build_od (a b : Option Addr) (n c m d : Nat) (x y : Int) (W : World) : (Instr.build 24 #[(0, .slice a n c), (1, .slice b m d), (2, .int .i64 x), (3, .int .i64 y)]).run Try.prog W = .ok (.agg [.slice a n c, .slice b m d, .int .i64 x, .int .i64 y].toArray) W := by kernel_rfl
theorem build_odN (W : World) : (Instr.build 24 #[(2, .int .i64 (-1)), (3, .int .i64 (-1))]).run Try.prog W = .ok (.agg [.slice none 0 0, .slice none 0 0, .int .i64 (-1), .int .i64 (-1)].toArray) W := by kernel_rfl
theorem size_sl : (Try.prog.info? 22).map (·.size) = some 1 := by kernel_rfl

set_option maxRecDepth 100000 in
set_option maxHeartbeats 6400000 in
theorem plnew_a {p : Int} (h : p < 1) (w : World) : Calls Try.prog 10 #[.int .i64 p] w fun e w' => ∃ v, e = .returned (.tuple #[v, .int .i64 2]) ∧ ResO Od.zero w v w' := by
  have d0 : decide (p < 1) = true := decide_eq_true (by omega)
  have BI := fun W => build_od0 W; clear h
  go_enter Try.func10, Try.ntmps10
  go_upto_region 1 with fail
  refine F_gen (F := fun W => Code.wp _ _ _ _ W) (J := fun W => Box W (w.heap.size) (od0) ∧ Below w.heap.size w W) (And.intro (Box.newc rfl rfl) (by go_grown)) ?_
  intro w0 ⟨e_r, hB0⟩
  have hs0 := hB0.size
  have x_r0 := e_r; clear e_r
  have lq := (x_r0).lt
  go_wp2_with (first | (refine wpList_build9 rfl 24 _ rfl (us := #[]) (by rfl) (BI _) ?_) | (refine wpList_store_box (cs := od0) rfl _ _ _ rfl x_r0 rfl rfl size_od0 rfl one_od0 ?_; intro W99 hW99))
  exact bodyPost_ret (results_box2 Try.results10 hW99.box rfl rfl Try.underlying24 rfl size_od0) rfl ⟨_, rfl, isO_zero _, freshO_zero _, hW99.below _ _ (by omega) hB0⟩

set_option maxRecDepth 100000 in
set_option maxHeartbeats 6400000 in
theorem plnew_b {p : Int} (h : 16 < p) (w : World) : Calls Try.prog 10 #[.int .i64 p] w fun e w' => ∃ v, e = .returned (.tuple #[v, .int .i64 2]) ∧ ResO Od.zero w v w' := by
  have d0 : decide (p < 1) = false := decide_eq_false (by omega)
  have d1 : decide (16 < p) = true := decide_eq_true (by omega)
  have BI := fun W => build_od0 W; clear h
  go_enter Try.func10, Try.ntmps10
  go_upto_region 1 with fail
  refine F_gen (F := fun W => Code.wp _ _ _ _ W) (J := fun W => Box W (w.heap.size) (od0) ∧ Below w.heap.size w W) (And.intro (Box.newc rfl rfl) (by go_grown)) ?_
  intro w0 ⟨e_r, hB0⟩
  have hs0 := hB0.size
  have x_r0 := e_r; clear e_r
  have lq := (x_r0).lt
  go_wp2_with (first | (refine wpList_build9 rfl 24 _ rfl (us := #[]) (by rfl) (BI _) ?_) | (refine wpList_store_box (cs := od0) rfl _ _ _ rfl x_r0 rfl rfl size_od0 rfl one_od0 ?_; intro W99 hW99))
  exact bodyPost_ret (results_box2 Try.results10 hW99.box rfl rfl Try.underlying24 rfl size_od0) rfl ⟨_, rfl, isO_zero _, freshO_zero _, hW99.below _ _ (by omega) hB0⟩

set_option maxRecDepth 100000 in
set_option maxHeartbeats 6400000 in
theorem plnew_c {n : Nat} (h1 : 1 ≤ n) (h2 : n ≤ 16) (w : World) : Calls Try.prog 10 #[.int .i64 (n : Int)] w fun e w' => ∃ v, e = .returned (.tuple #[v, .int .i64 0]) ∧ ResO (ofL n []) w v w' := by
  have d0 : decide ((n : Int) < 1) = false := decide_eq_false (by omega)
  have d1 : decide (16 < (n : Int)) = false := decide_eq_false (by omega)
  have RP := fun (W : World) (u : Value) (h : IsR LI W u [-1]) => prep_is h1 (by omega) W h
  go_enter Try.func10, Try.ntmps10
  go_upto_region 1 with fail
  refine F_gen (F := fun W => Code.wp _ _ _ _ W) (J := fun W => Box W (w.heap.size) (od0) ∧ Below w.heap.size w W) (And.intro (Box.newc rfl rfl) (by go_grown)) ?_
  intro w0 ⟨e_r, hB0⟩
  have hs0 := hB0.size
  have x_r0 := e_r; clear e_r
  go_upto_region 4 with fail
  clear d0 d1
  have hlo := (x_r0).lt
  refine F_gen (F := fun W => Code.wp _ _ _ _ W) (J := fun W => Hid (IsR LI W (.slice (some ⟨w0.heap.size, 0, none⟩) 1 1) [-1]) ∧ Below w0.heap.size w0 W) (And.intro (Lib.hid (IsR.built [-1] rfl rfl rfl rfl (by decide))) ((Below.refl _ _).alloc (Nat.le_refl _) _)) ?_
  intro w1 ⟨HL, hb⟩; have q1 := hb.size
  have hB1 : Below w.heap.size w w1 := below_thru hB0 hb
  have hs1 := hB1.size
  have x_r1 : Box w1 (w.heap.size) (od0) := Box.below x_r0 hb
  clear hB0 hs0 x_r0
  clear hb
  have K_w1_1 : Below w1.heap.size w1 w1 := Below.refl _ _
  go_wp2_with fail
  refine (RP _ _ (HL.out.below K_w1_1)).mono ?_
  rintro e w2 ⟨va, rfl, oa, hb⟩; have q2 := hb.size
  have K_w1_2 : Below w1.heap.size w1 w2 := below_thru K_w1_1 hb
  clear K_w1_1
  have hB2 : Below w.heap.size w w2 := below_thru hB1 hb
  have hs2 := hB2.size
  have x_r2 : Box w2 (w.heap.size) (od0) := Box.below x_r1 hb
  clear hB1 hs1 x_r1
  clear hb; have OA := Lib.hid oa; clear oa
  have K_w2_2 : Below w2.heap.size w2 w2 := Below.refl _ _
  obtain ⟨pa, ca, rfl⟩ := own_slR OA.out
  go_wp2_with fail
  refine (RP _ _ (HL.out.below K_w1_2)).mono ?_
  rintro e w3 ⟨vb, rfl, ob, hb⟩
  have K_w1_3 : Below w1.heap.size w1 w3 := below_thru K_w1_2 hb
  have K_w2_3 : Below w2.heap.size w2 w3 := below_thru K_w2_2 hb
  clear K_w1_2 K_w2_2
  have hB3 : Below w.heap.size w w3 := below_thru hB2 hb
  have hs3 := hB3.size
  have x_r3 : Box w3 (w.heap.size) (od0) := Box.below x_r2 hb
  clear hB2 hs2 x_r2
  clear hb
  obtain ⟨pb, cb, rfl⟩ := own_slR ob
  have OA3 := Lib.hid (ownR_base (ownR_below OA.out K_w2_3) (show w.heap.size + 1 ≤ _ by omega)); have OB3 := Lib.hid (ownR_base ob (show w.heap.size + 1 ≤ _ by omega)); clear OA ob HL RP
  go_wp2_with (first | (refine wpList_build9 rfl 24 _ rfl (us := #[(0, .slice pa n ca), (1, .slice pb n cb), (2, .int .i64 (-1)), (3, .int .i64 (-1))]) (by rfl) (build_od _ _ _ _ _ _ _ _ _) ?_) | (refine wpList_store_box (cs := [.slice pa n ca, .slice pb n cb, .int .i64 (-1), .int .i64 (-1)]) rfl _ _ _ rfl x_r3 rfl rfl (size_od _ _ _ _) rfl (one_od _ _ _ _ _ _ _ _) ?_; intro W99 hW99))
  exact bodyPost_ret (results_box2 Try.results10 hW99.box rfl rfl Try.underlying24 rfl (size_od _ _ _ _)) rfl ⟨_, rfl, resO_own (ownR_base (ownR_stored hW99 OA3.out (by omega)) (by omega)) (ownR_base (ownR_stored hW99 OB3.out (by omega)) (by omega)) (by simp) (by simp) (none_pv n) (none_nx n) rfl rfl (hW99.below _ _ (by omega) hB3)⟩

theorem plnew_is {p : Int} {R : Od} {q : Int} (h : NwO p R q) (w : World) : Calls Try.prog 10 #[.int .i64 p] w fun e w' => ∃ v, e = .returned (.tuple #[v, .int .i64 q]) ∧ ResO R w v w' := by
  rcases h with ⟨rfl, h | h, rfl⟩ | ⟨rfl, n, rfl, h1, h2, rfl⟩
  · exact plnew_a h w
  · exact plnew_b h w
  · exact plnew_c h1 h2 w

set_option maxRecDepth 100000 in
set_option maxHeartbeats 6400000 in
theorem plcop_is {v : Value} {O : Od} (w : World) (h1 : IsO w v O) (hl : O.pv.length ≤ 200 ∧ O.nx.length ≤ 200) : Calls Try.prog 32 #[v] w (GivesO O w) := by
  have HO := Lib.hid h1
  obtain ⟨v1, v2, rfl, g1, g2⟩ := id h1
  obtain ⟨a1, c1, rfl, hr1⟩ := id g1; obtain ⟨a2, c2, rfl, hr2⟩ := id g2
  have m1 := hr1.most; have r1 := hr1.room; have m2 := hr2.most; have r2 := hr2.room; have H1 := Lib.hid g1; have H2 := Lib.hid g2
  clear hr1 hr2 g1 g2 h1
  have CT := fun (W : World) (v : Value) (h : IsR LI W v O.pv) => pcli_is hl.1 W h; have CC := fun (W : World) (v : Value) (h : IsR LI W v O.nx) => pcli_is hl.2 W h
  clear hl
  go_enter Try.func32, Try.ntmps32
  go_upto_region 1 with fail
  refine F_gen (F := fun W => Code.wp _ _ _ _ W) (J := fun W => Box W (w.heap.size) ([.slice a1 O.pv.length c1, .slice a2 O.nx.length c2, .int .i64 O.hd, .int .i64 O.tl]) ∧ Box W (w.heap.size + 1) (od0) ∧ Below w.heap.size w W) (And.intro (Box.alloc (Box.newc rfl rfl) _) (And.intro (Box.newc rfl (by simp)) (by go_grown))) ?_
  intro w0 ⟨e_d, e_r, hB0⟩
  have hs0 := hB0.size
  have x_d0 := e_d; clear e_d
  have x_r0 := e_r; clear e_r
  have cd0 := (x_d0).c 0 _ rfl; have cd1 := (x_d0).c 1 _ rfl
  refine wp_region_k_drew (S := fun W => W.cell? ⟨w.heap.size, 0, none⟩ = some (.slice a1 O.pv.length c1) ∧ W.cell? ⟨w.heap.size, 1, none⟩ = some (.slice a2 O.nx.length c2)) 7 (by kernel_rfl) ?_
  refine F_drew (F := fun W => wpAnyK _ _ _ _ _ _ _ _ _ W) ?_
  intro Ws0 hbs0
  clear hs0
  have c_d0_s0 := cell_below hbs0 cd0
  have c_d1_s0 := cell_below hbs0 cd1
  have z_d_s0 : Box Ws0 (w.heap.size) ([.slice a1 O.pv.length c1, .slice a2 O.nx.length c2, .int .i64 O.hd, .int .i64 O.tl]) := Box.below x_d0 hbs0
  have z_r_s0 : Box Ws0 (w.heap.size + 1) (od0) := Box.below x_r0 hbs0
  have Bs0 := below_thru hB0 hbs0
  clear cd0 cd1 x_d0 x_r0 hB0 hbs0
  refine takeK (k := 7) 0 3 (v := ?vs0_1) rfl (by rfl) (by kernel_rfl) (by kernel_rfl) (by kernel_rfl) (fun _ _ _ h => h) (by decide) (by kernel_rfl) (by kernel_rfl) (Or.inl ⟨by rfl, ?_⟩) ((And.intro c_d0_s0 c_d1_s0)) ?_
  rotate_left
  · intro wq hSq
    go_simp
    exact rfl
  try simp only [Act.put, List.setIfInBounds_toArray, List.set_cons_zero, List.set_cons_succ]
  refine takeK (k := 7) 1 4 (v := ?vs1_2) rfl (by rfl) (by kernel_rfl) (by kernel_rfl) (by kernel_rfl) (fun _ _ _ h => h) (by decide) (by kernel_rfl) (by kernel_rfl) (Or.inl ⟨by rfl, ?_⟩) ((And.intro c_d0_s0 c_d1_s0)) ?_
  rotate_left
  · intro wq hSq
    have cq := hSq.1
    have zq := lt_of_cell cq
    go_simp
    exact rfl
  try simp only [Act.put, List.setIfInBounds_toArray, List.set_cons_zero, List.set_cons_succ]
  refine takeK (k := 7) 3 6 (v := ?vs3_3) rfl (by rfl) (by kernel_rfl) (by kernel_rfl) (by kernel_rfl) (fun _ _ _ h => h) (by decide) (by kernel_rfl) (by kernel_rfl) (Or.inl ⟨by rfl, ?_⟩) ((And.intro c_d0_s0 c_d1_s0)) ?_
  rotate_left
  · intro wq hSq
    go_simp
    exact rfl
  try simp only [Act.put, List.setIfInBounds_toArray, List.set_cons_zero, List.set_cons_succ]
  refine takeK (k := 7) 4 7 (v := ?vs4_4) rfl (by rfl) (by kernel_rfl) (by kernel_rfl) (by kernel_rfl) (fun _ _ _ h => h) (by decide) (by kernel_rfl) (by kernel_rfl) (Or.inl ⟨by rfl, ?_⟩) ((And.intro c_d0_s0 c_d1_s0)) ?_
  rotate_left
  · intro wq hSq
    have cq := hSq.2
    have zq := lt_of_cell cq
    go_simp
    exact rfl
  try simp only [Act.put, List.setIfInBounds_toArray, List.set_cons_zero, List.set_cons_succ]
  refine wpAnyK_ready (rs := [2]) (by kernel_rfl) (by simp) (AllReadyK.cons rfl (fun K hK => ?_) AllReadyK.nil)
  go_simp
  have low5 := (z_r_s0).lt
  refine (CT _ _ (H1.out.below Bs0)).mono ?_
  rintro e Ws5 ⟨v5, rfl, on5, hbs5⟩
  have c_d0_s5 := cell_below hbs5 c_d0_s0
  have c_d1_s5 := cell_below hbs5 c_d1_s0
  have z_d_s5 : Box Ws5 (w.heap.size) ([.slice a1 O.pv.length c1, .slice a2 O.nx.length c2, .int .i64 O.hd, .int .i64 O.tl]) := Box.below z_d_s0 hbs5
  have z_r_s5 : Box Ws5 (w.heap.size + 1) (od0) := Box.below z_r_s0 hbs5
  have Bs5 := below_thru Bs0 hbs5
  clear c_d0_s0 c_d1_s0 z_d_s0 z_r_s0 Bs0 hbs5
  have oo5 := Lib.hid (ownR_base on5 (show w.heap.size + 2 ≤ _ by have := low5; omega)); clear on5 low5
  obtain ⟨p5, n5, rfl⟩ := own_slR oo5.out
  refine hK.out _ _ (fun _ => (And.intro c_d0_s5 c_d1_s5)) (fun _ => ?_); clear hK K
  refine takeK (k := 7) 6 9 (v := ?vs6_6) rfl (by rfl) (by kernel_rfl) (by kernel_rfl) (by kernel_rfl) (fun _ _ _ h => h) (by decide) (by kernel_rfl) (by kernel_rfl) (Or.inl ⟨by rfl, ?_⟩) ((And.intro c_d0_s5 c_d1_s5)) ?_
  rotate_left
  · intro wq hSq
    go_simp
    exact rfl
  try simp only [Act.put, List.setIfInBounds_toArray, List.set_cons_zero, List.set_cons_succ]
  refine wpAnyK_ready (rs := [5]) (by kernel_rfl) (by simp) (AllReadyK.cons rfl (fun K hK => ?_) AllReadyK.nil)
  go_simp
  have low7 := (z_r_s5).lt
  refine (CC _ _ (H2.out.below Bs5)).mono ?_
  rintro e Ws7 ⟨v7, rfl, on7, hbs7⟩
  have ap := apart_of oo5.out on7
  have c_d0_s7 := cell_below hbs7 c_d0_s5
  have c_d1_s7 := cell_below hbs7 c_d1_s5
  have z_d_s7 : Box Ws7 (w.heap.size) ([.slice a1 O.pv.length c1, .slice a2 O.nx.length c2, .int .i64 O.hd, .int .i64 O.tl]) := Box.below z_d_s5 hbs7
  have z_r_s7 : Box Ws7 (w.heap.size + 1) (od0) := Box.below z_r_s5 hbs7
  have o_t_s7 := Lib.hid (ownR_below oo5.out hbs7)
  have Bs7 := below_thru Bs5 hbs7
  clear c_d0_s5 c_d1_s5 z_d_s5 z_r_s5 oo5 Bs5 hbs7
  have oo7 := Lib.hid (ownR_base on7 (show w.heap.size + 2 ≤ _ by have := low7; omega)); clear on7 low7
  obtain ⟨p7, n7, rfl⟩ := own_slR oo7.out
  refine hK.out _ _ (fun _ => (And.intro c_d0_s7 c_d1_s7)) (fun _ => ?_); clear hK K
  refine wpAnyK_ready (rs := [7]) (by kernel_rfl) (by simp) (AllReadyK.cons rfl (fun K hK => ?_) AllReadyK.nil)
  refine step_store_cell0 (k := 0) (ws := [.slice p5 (O.pv.length) n5, .slice a2 O.nx.length c2, .int .i64 O.hd, .int .i64 O.tl]) (v := .slice p5 (O.pv.length) n5) rfl rfl _ _ _ rfl z_d_s7 rfl rfl rfl rfl size_sl (by show 0 < 4; decide) rfl ?_
  intro Ws8 hWs8
  have z_d_s8 := hWs8.box
  have z_r_s8 : Box Ws8 (w.heap.size + 1) (od0) := hWs8.past _ _ (by omega) z_r_s7
  have o_t_s8 := Lib.hid (ownR_stored hWs8 o_t_s7.out (by omega))
  have o_c_s8 := Lib.hid (ownR_stored hWs8 oo7.out (by omega))
  have Bs8 := hWs8.below _ _ (by omega) Bs7
  clear z_d_s7 z_r_s7 o_t_s7 oo7 Bs7 hWs8
  refine hK.out _ _ (fun h => (Bool.false_ne_true (h.symm.trans (by kernel_rfl))).elim) (fun _ => ?_); clear hK K
  refine takeY (k := 7) 8 10 (v := ?vs8_9) rfl (by rfl) (by kernel_rfl) (by kernel_rfl) (by kernel_rfl) (fun _ _ _ h => h) (by decide) (Or.inl ⟨by rfl, ?_⟩) (fun h => (Bool.false_ne_true (h.symm.trans (by kernel_rfl))).elim) ?_
  rotate_left
  · intro wq hSq
    go_simp
    exact rfl
  try simp only [Act.put, List.setIfInBounds_toArray, List.set_cons_zero, List.set_cons_succ]
  refine wpAnyK_ready (rs := [9]) (by kernel_rfl) (by simp) (AllReadyK.cons rfl (fun K hK => ?_) AllReadyK.nil)
  refine step_store_cell0 (k := 1) (ws := [.slice p5 (O.pv.length) n5, .slice p7 (O.nx.length) n7, .int .i64 O.hd, .int .i64 O.tl]) (v := .slice p7 (O.nx.length) n7) rfl rfl _ _ _ rfl z_d_s8 rfl rfl rfl rfl size_sl (by show 1 < 4; decide) rfl ?_
  intro Ws10 hWs10
  have z_d_s10 := hWs10.box
  have z_r_s10 : Box Ws10 (w.heap.size + 1) (od0) := hWs10.past _ _ (by omega) z_r_s8
  have o_t_s10 := Lib.hid (ownR_stored hWs10 o_t_s8.out (by omega))
  have o_c_s10 := Lib.hid (ownR_stored hWs10 o_c_s8.out (by omega))
  have Bs10 := hWs10.below _ _ (by omega) Bs8
  clear z_d_s8 z_r_s8 o_t_s8 o_c_s8 Bs8 hWs10
  refine hK.out _ _ (fun h => (Bool.false_ne_true (h.symm.trans (by kernel_rfl))).elim) (fun _ => ?_); clear hK K
  refine wpAnyK_done (by kernel_rfl) ?_ _
  have lq := (z_r_s10).lt
  go_wp2_with (first | (refine wpList_load_box9 rfl _ _ rfl z_d_s10 rfl Try.underlying24 rfl (size_od _ _ _ _) ?_) | (refine wpList_store_box (cs := [.slice p5 (O.pv.length) n5, .slice p7 (O.nx.length) n7, .int .i64 O.hd, .int .i64 O.tl]) rfl _ _ _ rfl z_r_s10 rfl rfl (size_od _ _ _ _) rfl (one_od _ _ _ _ _ _ _ _) ?_; intro W99 hW99))
  exact bodyPost_ret (results_box Try.results32 hW99.box rfl Try.underlying24 rfl (size_od _ _ _ _)) rfl ⟨_, _, rfl, ownR_base (ownR_stored hW99 o_t_s10.out (by omega)) (by omega), ownR_base (ownR_stored hW99 o_c_s10.out (by omega)) (by omega), ap, hW99.below _ _ (by omega) Bs10⟩

set_option maxRecDepth 100000 in
set_option maxHeartbeats 6400000 in
theorem rltwin_is {v : Value} {O : Od} (w : World) (h1 : IsO w v O) (hl : O.pv.length ≤ 200 ∧ O.nx.length ≤ 200) : Calls Try.prog 9 #[v] w (GivesO O w) := by
  have HO := Lib.hid h1
  obtain ⟨v1, v2, rfl, g1, g2⟩ := id h1
  obtain ⟨a1, c1, rfl, hr1⟩ := id g1; obtain ⟨a2, c2, rfl, hr2⟩ := id g2
  have m1 := hr1.most; have r1 := hr1.room; have m2 := hr2.most; have r2 := hr2.room; have H1 := Lib.hid g1; have H2 := Lib.hid g2
  clear hr1 hr2 g1 g2 h1
  obtain ⟨tiLI, hinLI, hz0LI, hz1LI, hz2LI⟩ := info_parts info_in
  have HL := Lib.hid hl; clear hl
  go_enter Try.func9, Try.ntmps9
  go_upto_region 1 with fail
  refine F_gen (F := fun W => Code.wp _ _ _ _ W) (J := fun W => Box W (w.heap.size) ([.slice a1 O.pv.length c1, .slice a2 O.nx.length c2, .int .i64 O.hd, .int .i64 O.tl]) ∧ Box W (w.heap.size + 1) (od0) ∧ Below w.heap.size w W) (And.intro (Box.alloc (Box.newc rfl rfl) _) (And.intro (Box.newc rfl (by simp)) (by go_grown))) ?_
  intro w0 ⟨e_d, e_r, hB0⟩
  have hs0 := hB0.size
  have x_d0 := e_d; clear e_d
  have x_r0 := e_r; clear e_r
  refine wp_region_held_drew (S := fun W => Box W (w.heap.size) ([.slice a1 O.pv.length c1, .slice a2 O.nx.length c2, .int .i64 O.hd, .int .i64 O.tl])) (by kernel_rfl) (x_d0).drew (fun _ => ?_)
  refine F_drew (F := fun W => wpAnyH _ _ _ _ _ _ _ _ W) ?_
  intro Ws0 hbs0
  clear hs0
  have x_d_s0 : Box Ws0 (w.heap.size) ([.slice a1 O.pv.length c1, .slice a2 O.nx.length c2, .int .i64 O.hd, .int .i64 O.tl]) := Box.below x_d0 hbs0
  have z_r_s0 : Box Ws0 (w.heap.size + 1) (od0) := Box.below x_r0 hbs0
  have Bs0 := below_thru hB0 hbs0
  clear x_d0 x_r0 hB0 hbs0
  refine takeH 1 4 (v := ?vs1_1) rfl (by rfl) (by kernel_rfl) (by kernel_rfl) (by kernel_rfl) (fun _ _ _ h => h) (Or.inl ⟨by rfl, ?_⟩) (x_d_s0) ?_
  rotate_left
  · intro wq hSq
    go_simp
    exact rfl
  try simp only [Act.put, List.setIfInBounds_toArray, List.set_cons_zero, List.set_cons_succ]
  refine takeH 2 5 (v := ?vs2_2) rfl (by rfl) (by kernel_rfl) (by kernel_rfl) (by kernel_rfl) (fun _ _ _ h => h) (Or.inl ⟨by rfl, ?_⟩) (x_d_s0) ?_
  rotate_left
  · intro wq hSq
    have cq := hSq.c 0 _ rfl
    have zq := lt_of_cell cq
    go_simp
    exact rfl
  try simp only [Act.put, List.setIfInBounds_toArray, List.set_cons_zero, List.set_cons_succ]
  refine takeH 5 8 (v := ?vs5_3) rfl (by rfl) (by kernel_rfl) (by kernel_rfl) (by kernel_rfl) (fun _ _ _ h => h) (Or.inl ⟨by rfl, ?_⟩) (x_d_s0) ?_
  rotate_left
  · intro wq hSq
    go_simp
    exact rfl
  try simp only [Act.put, List.setIfInBounds_toArray, List.set_cons_zero, List.set_cons_succ]
  refine takeH 6 9 (v := ?vs6_4) rfl (by rfl) (by kernel_rfl) (by kernel_rfl) (by kernel_rfl) (fun _ _ _ h => h) (Or.inl ⟨by rfl, ?_⟩) (x_d_s0) ?_
  rotate_left
  · intro wq hSq
    have cq := hSq.c 1 _ rfl
    have zq := lt_of_cell cq
    go_simp
    exact rfl
  try simp only [Act.put, List.setIfInBounds_toArray, List.set_cons_zero, List.set_cons_succ]
  refine takeH 8 11 (v := ?vs8_5) rfl (by rfl) (by kernel_rfl) (by kernel_rfl) (by kernel_rfl) (fun _ _ _ h => h) (Or.inl ⟨by rfl, ?_⟩) (x_d_s0) ?_
  rotate_left
  · intro wq hSq
    go_simp
    exact rfl
  try simp only [Act.put, List.setIfInBounds_toArray, List.set_cons_zero, List.set_cons_succ]
  refine takeH 9 12 (v := ?vs9_6) rfl (by rfl) (by kernel_rfl) (by kernel_rfl) (by kernel_rfl) (fun _ _ _ h => h) (Or.inl ⟨by rfl, ?_⟩) (x_d_s0) ?_
  rotate_left
  · intro wq hSq
    have cq := hSq.c 2 _ rfl
    have zq := lt_of_cell cq
    go_simp
    exact rfl
  try simp only [Act.put, List.setIfInBounds_toArray, List.set_cons_zero, List.set_cons_succ]
  refine takeH 10 13 (v := ?vs10_7) rfl (by rfl) (by kernel_rfl) (by kernel_rfl) (by kernel_rfl) (fun _ _ _ h => h) (Or.inl ⟨by rfl, ?_⟩) (x_d_s0) ?_
  rotate_left
  · intro wq hSq
    go_simp
    exact rfl
  try simp only [Act.put, List.setIfInBounds_toArray, List.set_cons_zero, List.set_cons_succ]
  refine takeH 11 14 (v := ?vs11_8) rfl (by rfl) (by kernel_rfl) (by kernel_rfl) (by kernel_rfl) (fun _ _ _ h => h) (Or.inl ⟨by rfl, ?_⟩) (x_d_s0) ?_
  rotate_left
  · intro wq hSq
    have cq := hSq.c 3 _ rfl
    have zq := lt_of_cell cq
    go_simp
    exact rfl
  try simp only [Act.put, List.setIfInBounds_toArray, List.set_cons_zero, List.set_cons_succ]
  refine wpAnyH_ready (rs := [0, 4]) (by kernel_rfl) (by simp) (AllReadyH.cons rfl (fun K hK => ?_) (AllReadyH.cons rfl (fun K hK => ?_) AllReadyH.nil))
  · skip
    have zls9 : w.heap.size + 2 ≤ Ws0.heap.size := (by have := (z_r_s0).lt; omega)
    go_simp
    refine hK.out _ _ (Box.alloc x_d_s0 _) (fun _ => ?_); clear hK K
    refine F_gen (F := fun W => wpAnyH _ _ _ _ _ _ _ _ W) (J := fun W => Hid (W.ownsRow (w.heap.size + 2) 3 1 (.slice (some ⟨Ws0.heap.size, 0, none⟩) 0 0) (0) ([])) ∧ Below Ws0.heap.size Ws0 W) (And.intro (Lib.hid (World.ownsRow_lit (base := w.heap.size + 2) (size := 1) Ws0 #[] 0 zls9 (by unfold maxLen; omega) rfl)) ((Below.refl _ _).alloc (Nat.le_refl _) _)) ?_
    intro Ws9 ⟨na_t_s9, hbs9⟩
    have x_d_s9 : Box Ws9 (w.heap.size) ([.slice a1 O.pv.length c1, .slice a2 O.nx.length c2, .int .i64 O.hd, .int .i64 O.tl]) := Box.below x_d_s0 hbs9
    have z_r_s9 : Box Ws9 (w.heap.size + 1) (od0) := Box.below z_r_s0 hbs9
    have Bs9 := below_thru Bs0 hbs9
    clear x_d_s0 z_r_s0 Bs0 hbs9
    clear zls9
    refine wpAnyH_ready (rs := [3, 4]) (by kernel_rfl) (by simp) (AllReadyH.cons rfl (fun K hK => ?_) (AllReadyH.cons rfl (fun K hK => ?_) AllReadyH.nil))
    · skip
      have zz10 : w.heap.size + 2 ≤ Ws9.heap.size := (by have := (z_r_s9).lt; omega)
      refine step_append_rowsA 6 rfl rfl LI _ _ 22 rfl (w.heap.size + 2) 3 tiLI (.int .i64 0) 1 8 rfl Try.underlying22 hinLI hz0LI hz1LI hz2LI rfl _ (0) _ rfl na_t_s9.out _ (O.pv) rfl (H1.out.below Bs9) (by unfold maxLen; have := HL.out; omega) (by have := HL.out; omega) zz10 ?_
      intro vs10 Ws10 hown hgr hat
      have hKB := (Below.refl (w.heap.size + 2) _).grown hgr zz10 (ownR_block na_t_s9.out)
      have x_d_s10 : Box Ws10 (w.heap.size) ([.slice a1 O.pv.length c1, .slice a2 O.nx.length c2, .int .i64 O.hd, .int .i64 O.tl]) := Box.keep12 x_d_s9 hKB (by omega)
      have z_r_s10 : Box Ws10 (w.heap.size + 1) (od0) := Box.keep12 z_r_s9 hKB (by omega)
      rw [Nat.zero_add, List.nil_append] at hown
      obtain ⟨vas10, vcs10, rfl⟩ := own_slR hown
      have o_t_s10 := Lib.hid hown
      have Bs10 := (Bs9).trans (hKB.mono (by omega))
      clear x_d_s9 z_r_s9 na_t_s9 Bs9 hown hgr hKB hat zz10
      refine hK.out _ _ x_d_s10 (fun _ => ?_); clear hK K
      refine wpAnyH_ready (rs := [4]) (by kernel_rfl) (by simp) (AllReadyH.cons rfl (fun K hK => ?_) AllReadyH.nil)
      have ap_t_c11 := apart_new (m := 0) (c := 0) o_t_s10.out
      have zls11 : w.heap.size + 2 ≤ Ws10.heap.size := (by have := (z_r_s10).lt; omega)
      go_simp
      refine hK.out _ _ (Box.alloc x_d_s10 _) (fun _ => ?_); clear hK K
      refine F_gen (F := fun W => wpAnyH _ _ _ _ _ _ _ _ W) (J := fun W => Hid (W.ownsRow (w.heap.size + 2) 3 1 (.slice (some ⟨Ws10.heap.size, 0, none⟩) 0 0) (0) ([])) ∧ Below Ws10.heap.size Ws10 W) (And.intro (Lib.hid (World.ownsRow_lit (base := w.heap.size + 2) (size := 1) Ws10 #[] 0 zls11 (by unfold maxLen; omega) rfl)) ((Below.refl _ _).alloc (Nat.le_refl _) _)) ?_
      intro Ws11 ⟨na_c_s11, hbs11⟩
      have x_d_s11 : Box Ws11 (w.heap.size) ([.slice a1 O.pv.length c1, .slice a2 O.nx.length c2, .int .i64 O.hd, .int .i64 O.tl]) := Box.below x_d_s10 hbs11
      have z_r_s11 : Box Ws11 (w.heap.size + 1) (od0) := Box.below z_r_s10 hbs11
      have o_t_s11 := Lib.hid (ownR_below o_t_s10.out hbs11)
      have Bs11 := below_thru Bs10 hbs11
      clear x_d_s10 z_r_s10 o_t_s10 Bs10 hbs11
      clear zls11
      refine wpAnyH_ready (rs := [7]) (by kernel_rfl) (by simp) (AllReadyH.cons rfl (fun K hK => ?_) AllReadyH.nil)
      have zz12 : w.heap.size + 2 ≤ Ws11.heap.size := (by have := (z_r_s11).lt; omega)
      refine step_append_rowsA 10 rfl rfl LI _ _ 22 rfl (w.heap.size + 2) 3 tiLI (.int .i64 0) 1 8 rfl Try.underlying22 hinLI hz0LI hz1LI hz2LI rfl _ (0) _ rfl na_c_s11.out _ (O.nx) rfl (H2.out.below Bs11) (by unfold maxLen; have := HL.out; omega) (by have := HL.out; omega) zz12 ?_
      intro vs12 Ws12 hown hgr hat
      have hKB := (Below.refl (w.heap.size + 2) _).grown hgr zz12 (ownR_block na_c_s11.out)
      have x_d_s12 : Box Ws12 (w.heap.size) ([.slice a1 O.pv.length c1, .slice a2 O.nx.length c2, .int .i64 O.hd, .int .i64 O.tl]) := Box.keep12 x_d_s11 hKB (by omega)
      have z_r_s12 : Box Ws12 (w.heap.size + 1) (od0) := Box.keep12 z_r_s11 hKB (by omega)
      have o_t_s12 := Lib.hid (ownR_apartB o_t_s11.out ap_t_c11 hgr)
      have ap_c_t12 := apart_grow (ap_t_c11).symm o_t_s11.out hat
      rw [Nat.zero_add, List.nil_append] at hown
      obtain ⟨vas12, vcs12, rfl⟩ := own_slR hown
      have o_c_s12 := Lib.hid hown
      have Bs12 := (Bs11).trans (hKB.mono (by omega))
      clear x_d_s11 z_r_s11 o_t_s11 na_c_s11 Bs11 hown hgr hKB hat zz12
      refine hK.out _ _ x_d_s12 (fun _ => ?_); clear hK K
      refine takeH 12 15 (v := ?vs12_13) rfl (by rfl) (by kernel_rfl) (by kernel_rfl) (by kernel_rfl) (fun _ _ _ h => h) (Or.inl ⟨by rfl, ?_⟩) (x_d_s12) ?_
      rotate_left
      · intro wq hSq
        go_simp
        exact rfl
      try simp only [Act.put, List.setIfInBounds_toArray, List.set_cons_zero, List.set_cons_succ]
      refine wpAnyH_ready (rs := [13]) (by kernel_rfl) (by simp) (AllReadyH.cons rfl (fun K hK => ?_) AllReadyH.nil)
      have nz_d := (x_d_s12).lt
      refine step_store_box0 (cs := [.slice vas10 (O.pv.length) vcs10, .slice vas12 (O.nx.length) vcs12, .int .i64 O.hd, .int .i64 O.tl]) rfl rfl _ _ _ rfl z_r_s12 rfl rfl (size_od _ _ _ _) rfl (one_od _ _ _ _ _ _ _ _) ?_
      intro Ws14 hWs14
      have x_d_s14 : Box Ws14 (w.heap.size) ([.slice a1 O.pv.length c1, .slice a2 O.nx.length c2, .int .i64 O.hd, .int .i64 O.tl]) := hWs14.past _ _ (by omega) x_d_s12
      have z_r_s14 := hWs14.box
      have o_t_s14 := Lib.hid (ownR_stored hWs14 o_t_s12.out (by omega))
      have o_c_s14 := Lib.hid (ownR_stored hWs14 o_c_s12.out (by omega))
      have Bs14 := hWs14.below _ _ (by omega) Bs12
      clear nz_d x_d_s12 z_r_s12 o_t_s12 o_c_s12 Bs12 hWs14
      refine hK.out _ _ x_d_s14 (fun _ => ?_); clear hK K
      refine wpAnyH_done (by kernel_rfl) ?_ _
      go_wp2_with fail
      exact bodyPost_ret (results_box Try.results9 z_r_s14 rfl Try.underlying24 rfl (size_od _ _ _ _)) rfl ⟨_, _, rfl, ownR_base o_t_s14.out (by omega), ownR_base o_c_s14.out (by omega), (ap_c_t12).symm, Bs14⟩
    · skip
      have ap_t_c15 := apart_new (m := 0) (c := 0) na_t_s9.out
      have zls15 : w.heap.size + 2 ≤ Ws9.heap.size := (by have := (z_r_s9).lt; omega)
      go_simp
      refine hK.out _ _ (Box.alloc x_d_s9 _) (fun _ => ?_); clear hK K
      refine F_gen (F := fun W => wpAnyH _ _ _ _ _ _ _ _ W) (J := fun W => Hid (W.ownsRow (w.heap.size + 2) 3 1 (.slice (some ⟨Ws9.heap.size, 0, none⟩) 0 0) (0) ([])) ∧ Below Ws9.heap.size Ws9 W) (And.intro (Lib.hid (World.ownsRow_lit (base := w.heap.size + 2) (size := 1) Ws9 #[] 0 zls15 (by unfold maxLen; omega) rfl)) ((Below.refl _ _).alloc (Nat.le_refl _) _)) ?_
      intro Ws15 ⟨na_c_s15, hbs15⟩
      have x_d_s15 : Box Ws15 (w.heap.size) ([.slice a1 O.pv.length c1, .slice a2 O.nx.length c2, .int .i64 O.hd, .int .i64 O.tl]) := Box.below x_d_s9 hbs15
      have z_r_s15 : Box Ws15 (w.heap.size + 1) (od0) := Box.below z_r_s9 hbs15
      have o_t_s15 := Lib.hid (ownR_below na_t_s9.out hbs15)
      have Bs15 := below_thru Bs9 hbs15
      clear x_d_s9 z_r_s9 na_t_s9 Bs9 hbs15
      clear zls15
      refine wpAnyH_ready (rs := [3]) (by kernel_rfl) (by simp) (AllReadyH.cons rfl (fun K hK => ?_) AllReadyH.nil)
      have zz16 : w.heap.size + 2 ≤ Ws15.heap.size := (by have := (z_r_s15).lt; omega)
      refine step_append_rowsA 6 rfl rfl LI _ _ 22 rfl (w.heap.size + 2) 3 tiLI (.int .i64 0) 1 8 rfl Try.underlying22 hinLI hz0LI hz1LI hz2LI rfl _ (0) _ rfl o_t_s15.out _ (O.pv) rfl (H1.out.below Bs15) (by unfold maxLen; have := HL.out; omega) (by have := HL.out; omega) zz16 ?_
      intro vs16 Ws16 hown hgr hat
      have hKB := (Below.refl (w.heap.size + 2) _).grown hgr zz16 (ownR_block o_t_s15.out)
      have x_d_s16 : Box Ws16 (w.heap.size) ([.slice a1 O.pv.length c1, .slice a2 O.nx.length c2, .int .i64 O.hd, .int .i64 O.tl]) := Box.keep12 x_d_s15 hKB (by omega)
      have z_r_s16 : Box Ws16 (w.heap.size + 1) (od0) := Box.keep12 z_r_s15 hKB (by omega)
      have o_c_s16 := Lib.hid (ownR_apartB na_c_s15.out (ap_t_c15).symm hgr)
      have ap_t_c16 := apart_grow ap_t_c15 na_c_s15.out hat
      rw [Nat.zero_add, List.nil_append] at hown
      obtain ⟨vas16, vcs16, rfl⟩ := own_slR hown
      have o_t_s16 := Lib.hid hown
      have Bs16 := (Bs15).trans (hKB.mono (by omega))
      clear x_d_s15 z_r_s15 na_c_s15 o_t_s15 Bs15 hown hgr hKB hat zz16
      refine hK.out _ _ x_d_s16 (fun _ => ?_); clear hK K
      refine wpAnyH_ready (rs := [7]) (by kernel_rfl) (by simp) (AllReadyH.cons rfl (fun K hK => ?_) AllReadyH.nil)
      have zz17 : w.heap.size + 2 ≤ Ws16.heap.size := (by have := (z_r_s16).lt; omega)
      refine step_append_rowsA 10 rfl rfl LI _ _ 22 rfl (w.heap.size + 2) 3 tiLI (.int .i64 0) 1 8 rfl Try.underlying22 hinLI hz0LI hz1LI hz2LI rfl _ (0) _ rfl o_c_s16.out _ (O.nx) rfl (H2.out.below Bs16) (by unfold maxLen; have := HL.out; omega) (by have := HL.out; omega) zz17 ?_
      intro vs17 Ws17 hown hgr hat
      have hKB := (Below.refl (w.heap.size + 2) _).grown hgr zz17 (ownR_block o_c_s16.out)
      have x_d_s17 : Box Ws17 (w.heap.size) ([.slice a1 O.pv.length c1, .slice a2 O.nx.length c2, .int .i64 O.hd, .int .i64 O.tl]) := Box.keep12 x_d_s16 hKB (by omega)
      have z_r_s17 : Box Ws17 (w.heap.size + 1) (od0) := Box.keep12 z_r_s16 hKB (by omega)
      have o_t_s17 := Lib.hid (ownR_apartB o_t_s16.out ap_t_c16 hgr)
      have ap_c_t17 := apart_grow (ap_t_c16).symm o_t_s16.out hat
      rw [Nat.zero_add, List.nil_append] at hown
      obtain ⟨vas17, vcs17, rfl⟩ := own_slR hown
      have o_c_s17 := Lib.hid hown
      have Bs17 := (Bs16).trans (hKB.mono (by omega))
      clear x_d_s16 z_r_s16 o_t_s16 o_c_s16 Bs16 hown hgr hKB hat zz17
      refine hK.out _ _ x_d_s17 (fun _ => ?_); clear hK K
      refine takeH 12 15 (v := ?vs12_18) rfl (by rfl) (by kernel_rfl) (by kernel_rfl) (by kernel_rfl) (fun _ _ _ h => h) (Or.inl ⟨by rfl, ?_⟩) (x_d_s17) ?_
      rotate_left
      · intro wq hSq
        go_simp
        exact rfl
      try simp only [Act.put, List.setIfInBounds_toArray, List.set_cons_zero, List.set_cons_succ]
      refine wpAnyH_ready (rs := [13]) (by kernel_rfl) (by simp) (AllReadyH.cons rfl (fun K hK => ?_) AllReadyH.nil)
      have nz_d := (x_d_s17).lt
      refine step_store_box0 (cs := [.slice vas16 (O.pv.length) vcs16, .slice vas17 (O.nx.length) vcs17, .int .i64 O.hd, .int .i64 O.tl]) rfl rfl _ _ _ rfl z_r_s17 rfl rfl (size_od _ _ _ _) rfl (one_od _ _ _ _ _ _ _ _) ?_
      intro Ws19 hWs19
      have x_d_s19 : Box Ws19 (w.heap.size) ([.slice a1 O.pv.length c1, .slice a2 O.nx.length c2, .int .i64 O.hd, .int .i64 O.tl]) := hWs19.past _ _ (by omega) x_d_s17
      have z_r_s19 := hWs19.box
      have o_t_s19 := Lib.hid (ownR_stored hWs19 o_t_s17.out (by omega))
      have o_c_s19 := Lib.hid (ownR_stored hWs19 o_c_s17.out (by omega))
      have Bs19 := hWs19.below _ _ (by omega) Bs17
      clear nz_d x_d_s17 z_r_s17 o_t_s17 o_c_s17 Bs17 hWs19
      refine hK.out _ _ x_d_s19 (fun _ => ?_); clear hK K
      refine wpAnyH_done (by kernel_rfl) ?_ _
      go_wp2_with fail
      exact bodyPost_ret (results_box Try.results9 z_r_s19 rfl Try.underlying24 rfl (size_od _ _ _ _)) rfl ⟨_, _, rfl, ownR_base o_t_s19.out (by omega), ownR_base o_c_s19.out (by omega), (ap_c_t17).symm, Bs19⟩
  · skip
    have zls20 : w.heap.size + 2 ≤ Ws0.heap.size := (by have := (z_r_s0).lt; omega)
    go_simp
    refine hK.out _ _ (Box.alloc x_d_s0 _) (fun _ => ?_); clear hK K
    refine F_gen (F := fun W => wpAnyH _ _ _ _ _ _ _ _ W) (J := fun W => Hid (W.ownsRow (w.heap.size + 2) 3 1 (.slice (some ⟨Ws0.heap.size, 0, none⟩) 0 0) (0) ([])) ∧ Below Ws0.heap.size Ws0 W) (And.intro (Lib.hid (World.ownsRow_lit (base := w.heap.size + 2) (size := 1) Ws0 #[] 0 zls20 (by unfold maxLen; omega) rfl)) ((Below.refl _ _).alloc (Nat.le_refl _) _)) ?_
    intro Ws20 ⟨na_c_s20, hbs20⟩
    have x_d_s20 : Box Ws20 (w.heap.size) ([.slice a1 O.pv.length c1, .slice a2 O.nx.length c2, .int .i64 O.hd, .int .i64 O.tl]) := Box.below x_d_s0 hbs20
    have z_r_s20 : Box Ws20 (w.heap.size + 1) (od0) := Box.below z_r_s0 hbs20
    have Bs20 := below_thru Bs0 hbs20
    clear x_d_s0 z_r_s0 Bs0 hbs20
    clear zls20
    refine wpAnyH_ready (rs := [0]) (by kernel_rfl) (by simp) (AllReadyH.cons rfl (fun K hK => ?_) AllReadyH.nil)
    have ap_c_t21 := apart_new (m := 0) (c := 0) na_c_s20.out
    have zls21 : w.heap.size + 2 ≤ Ws20.heap.size := (by have := (z_r_s20).lt; omega)
    go_simp
    refine hK.out _ _ (Box.alloc x_d_s20 _) (fun _ => ?_); clear hK K
    refine F_gen (F := fun W => wpAnyH _ _ _ _ _ _ _ _ W) (J := fun W => Hid (W.ownsRow (w.heap.size + 2) 3 1 (.slice (some ⟨Ws20.heap.size, 0, none⟩) 0 0) (0) ([])) ∧ Below Ws20.heap.size Ws20 W) (And.intro (Lib.hid (World.ownsRow_lit (base := w.heap.size + 2) (size := 1) Ws20 #[] 0 zls21 (by unfold maxLen; omega) rfl)) ((Below.refl _ _).alloc (Nat.le_refl _) _)) ?_
    intro Ws21 ⟨na_t_s21, hbs21⟩
    have x_d_s21 : Box Ws21 (w.heap.size) ([.slice a1 O.pv.length c1, .slice a2 O.nx.length c2, .int .i64 O.hd, .int .i64 O.tl]) := Box.below x_d_s20 hbs21
    have z_r_s21 : Box Ws21 (w.heap.size + 1) (od0) := Box.below z_r_s20 hbs21
    have o_c_s21 := Lib.hid (ownR_below na_c_s20.out hbs21)
    have Bs21 := below_thru Bs20 hbs21
    clear x_d_s20 z_r_s20 na_c_s20 Bs20 hbs21
    clear zls21
    refine wpAnyH_ready (rs := [3]) (by kernel_rfl) (by simp) (AllReadyH.cons rfl (fun K hK => ?_) AllReadyH.nil)
    have zz22 : w.heap.size + 2 ≤ Ws21.heap.size := (by have := (z_r_s21).lt; omega)
    refine step_append_rowsA 6 rfl rfl LI _ _ 22 rfl (w.heap.size + 2) 3 tiLI (.int .i64 0) 1 8 rfl Try.underlying22 hinLI hz0LI hz1LI hz2LI rfl _ (0) _ rfl na_t_s21.out _ (O.pv) rfl (H1.out.below Bs21) (by unfold maxLen; have := HL.out; omega) (by have := HL.out; omega) zz22 ?_
    intro vs22 Ws22 hown hgr hat
    have hKB := (Below.refl (w.heap.size + 2) _).grown hgr zz22 (ownR_block na_t_s21.out)
    have x_d_s22 : Box Ws22 (w.heap.size) ([.slice a1 O.pv.length c1, .slice a2 O.nx.length c2, .int .i64 O.hd, .int .i64 O.tl]) := Box.keep12 x_d_s21 hKB (by omega)
    have z_r_s22 : Box Ws22 (w.heap.size + 1) (od0) := Box.keep12 z_r_s21 hKB (by omega)
    have o_c_s22 := Lib.hid (ownR_apartB o_c_s21.out ap_c_t21 hgr)
    have ap_t_c22 := apart_grow (ap_c_t21).symm o_c_s21.out hat
    rw [Nat.zero_add, List.nil_append] at hown
    obtain ⟨vas22, vcs22, rfl⟩ := own_slR hown
    have o_t_s22 := Lib.hid hown
    have Bs22 := (Bs21).trans (hKB.mono (by omega))
    clear x_d_s21 z_r_s21 o_c_s21 na_t_s21 Bs21 hown hgr hKB hat zz22
    refine hK.out _ _ x_d_s22 (fun _ => ?_); clear hK K
    refine wpAnyH_ready (rs := [7]) (by kernel_rfl) (by simp) (AllReadyH.cons rfl (fun K hK => ?_) AllReadyH.nil)
    have zz23 : w.heap.size + 2 ≤ Ws22.heap.size := (by have := (z_r_s22).lt; omega)
    refine step_append_rowsA 10 rfl rfl LI _ _ 22 rfl (w.heap.size + 2) 3 tiLI (.int .i64 0) 1 8 rfl Try.underlying22 hinLI hz0LI hz1LI hz2LI rfl _ (0) _ rfl o_c_s22.out _ (O.nx) rfl (H2.out.below Bs22) (by unfold maxLen; have := HL.out; omega) (by have := HL.out; omega) zz23 ?_
    intro vs23 Ws23 hown hgr hat
    have hKB := (Below.refl (w.heap.size + 2) _).grown hgr zz23 (ownR_block o_c_s22.out)
    have x_d_s23 : Box Ws23 (w.heap.size) ([.slice a1 O.pv.length c1, .slice a2 O.nx.length c2, .int .i64 O.hd, .int .i64 O.tl]) := Box.keep12 x_d_s22 hKB (by omega)
    have z_r_s23 : Box Ws23 (w.heap.size + 1) (od0) := Box.keep12 z_r_s22 hKB (by omega)
    have o_t_s23 := Lib.hid (ownR_apartB o_t_s22.out ap_t_c22 hgr)
    have ap_c_t23 := apart_grow (ap_t_c22).symm o_t_s22.out hat
    rw [Nat.zero_add, List.nil_append] at hown
    obtain ⟨vas23, vcs23, rfl⟩ := own_slR hown
    have o_c_s23 := Lib.hid hown
    have Bs23 := (Bs22).trans (hKB.mono (by omega))
    clear x_d_s22 z_r_s22 o_t_s22 o_c_s22 Bs22 hown hgr hKB hat zz23
    refine hK.out _ _ x_d_s23 (fun _ => ?_); clear hK K
    refine takeH 12 15 (v := ?vs12_24) rfl (by rfl) (by kernel_rfl) (by kernel_rfl) (by kernel_rfl) (fun _ _ _ h => h) (Or.inl ⟨by rfl, ?_⟩) (x_d_s23) ?_
    rotate_left
    · intro wq hSq
      go_simp
      exact rfl
    try simp only [Act.put, List.setIfInBounds_toArray, List.set_cons_zero, List.set_cons_succ]
    refine wpAnyH_ready (rs := [13]) (by kernel_rfl) (by simp) (AllReadyH.cons rfl (fun K hK => ?_) AllReadyH.nil)
    have nz_d := (x_d_s23).lt
    refine step_store_box0 (cs := [.slice vas22 (O.pv.length) vcs22, .slice vas23 (O.nx.length) vcs23, .int .i64 O.hd, .int .i64 O.tl]) rfl rfl _ _ _ rfl z_r_s23 rfl rfl (size_od _ _ _ _) rfl (one_od _ _ _ _ _ _ _ _) ?_
    intro Ws25 hWs25
    have x_d_s25 : Box Ws25 (w.heap.size) ([.slice a1 O.pv.length c1, .slice a2 O.nx.length c2, .int .i64 O.hd, .int .i64 O.tl]) := hWs25.past _ _ (by omega) x_d_s23
    have z_r_s25 := hWs25.box
    have o_t_s25 := Lib.hid (ownR_stored hWs25 o_t_s23.out (by omega))
    have o_c_s25 := Lib.hid (ownR_stored hWs25 o_c_s23.out (by omega))
    have Bs25 := hWs25.below _ _ (by omega) Bs23
    clear nz_d x_d_s23 z_r_s23 o_t_s23 o_c_s23 Bs23 hWs25
    refine hK.out _ _ x_d_s25 (fun _ => ?_); clear hK K
    refine wpAnyH_done (by kernel_rfl) ?_ _
    go_wp2_with fail
    exact bodyPost_ret (results_box Try.results9 z_r_s25 rfl Try.underlying24 rfl (size_od _ _ _ _)) rfl ⟨_, _, rfl, ownR_base o_t_s25.out (by omega), ownR_base o_c_s25.out (by omega), (ap_c_t23).symm, Bs25⟩

end Go.Proofs.Ytjhlpkkefdohjaa
