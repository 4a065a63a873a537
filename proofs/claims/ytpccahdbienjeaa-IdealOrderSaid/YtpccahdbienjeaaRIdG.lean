/-
  The reference of layer 12, walked: Command.
-/
import Derived.Test.YtpccahdbienjeaaRIdF
namespace Go.Proofs.Ytpccahdbienjeaa
open Go.RowKit

set_option maxRecDepth 100000 in
set_option maxHeartbeats 6400000 in
theorem rcmd12_a {v : Value} {ts : List Tk} {cs : List Cmd} (c : Cmd) (hl : ts.length + cs.length ≤ 180) {q : Int} (hn : q ≠ 0) (hq : ChkD ts cs q) (w : World) (h1 : IsD w v ts cs) : Calls Try.prog 19 #[v, .agg (ccell c).toArray] w (GivesDE [] [] q w) := by
  have CK := fun (W : World) (u : Value) (h : IsD W u ts cs) => rchk12_is W h (by omega) hq; have TW := fun (W : World) (u : Value) (h : IsD W u ts cs) => rtwin_is W h (by omega); have BI := fun W => build_i0 W; have SI := Lib.hid size_i0; have OI := Lib.hid one_i0
  have SV := Lib.hid (size_cmd c); have HLL := Lib.hid hl
  have d1 : (q != 0) = true := by rw [bne_iff_ne]; exact hn
  clear hn
  have HD := Lib.hid h1
  obtain ⟨v1, v2, rfl, g1, g2⟩ := id h1
  obtain ⟨a1, c1, rfl, hr1⟩ := id g1; obtain ⟨a2, c2, rfl, hr2⟩ := id g2
  have m1 := hr1.most; have r1 := hr1.room; have m2 := hr2.most; have r2 := hr2.room; have H1 := Lib.hid g1; have H2 := Lib.hid g2
  clear hr1 hr2 g1 g2 h1
  obtain ⟨V, hV⟩ : ∃ X, (ccell c) = X := ⟨_, rfl⟩; rw [hV] at SV ⊢; clear hV hl hq
  go_enter Try.func19, Try.ntmps19
  go_upto_region 1 with fail
  refine F_gen (F := fun W => Code.wp _ _ _ _ W) (J := fun W => Box W (w.heap.size) ([.slice a1 ts.length c1, .slice a2 cs.length c2]) ∧ Box W (w.heap.size + 1) (V) ∧ Box W (w.heap.size + 2) (id0) ∧ Below w.heap.size w W) (And.intro (Box.alloc (Box.alloc (Box.newc rfl rfl) _) _) (And.intro (Box.alloc (Box.newc rfl (by simp)) _) (And.intro (Box.newc rfl (by simp)) (by go_grown)))) ?_
  intro w0 ⟨e_d, e_c, e_r, hB0⟩
  have hs0 := hB0.size
  have x_d0 := e_d; clear e_d
  have x_c0 := e_c; clear e_c
  have x_r0 := e_r; clear e_r
  go_wp2_with (refine wpList_load_box9 rfl _ _ rfl x_d0 rfl Try.underlying25 rfl (size_id12 _ _) ?_)
  refine (CK _ _ (HD.out.below hB0)).mono ?_
  rintro e w1 ⟨rfl, hb⟩
  have hB1 : Below w.heap.size w w1 := below_thru hB0 hb
  have hs1 := hB1.size
  have x_d1 : Box w1 (w.heap.size) ([.slice a1 ts.length c1, .slice a2 cs.length c2]) := Box.below x_d0 hb
  have x_c1 : Box w1 (w.heap.size + 1) (V) := Box.below x_c0 hb
  have x_r1 : Box w1 (w.heap.size + 2) (id0) := Box.below x_r0 hb
  clear hB0 hs0 x_d0 x_c0 x_r0
  clear hb
  go_wp2_with (first
    | (refine wpList_load_box9 rfl _ _ rfl x_d1 rfl Try.underlying25 rfl (size_id12 _ _) ?_)
    | (refine wpList_build9 rfl 25 _ rfl (us := #[]) (by rfl) (BI _) ?_))
  refine (CK _ _ (HD.out.below hB1)).mono ?_
  rintro e w2 ⟨rfl, hb⟩
  have hB2 : Below w.heap.size w w2 := below_thru hB1 hb
  have hs2 := hB2.size
  have x_d2 : Box w2 (w.heap.size) ([.slice a1 ts.length c1, .slice a2 cs.length c2]) := Box.below x_d1 hb
  have x_c2 : Box w2 (w.heap.size + 1) (V) := Box.below x_c1 hb
  have x_r2 : Box w2 (w.heap.size + 2) (id0) := Box.below x_r1 hb
  clear hB1 hs1 x_d1 x_c1 x_r1
  clear hb
  have lq := (x_r2).lt
  go_wp2_with (first | (refine wpList_build9 rfl 25 _ rfl (us := #[]) (by rfl) (BI _) ?_) | (refine wpList_store_box (cs := id0) rfl _ _ _ rfl x_r2 rfl rfl SI.out rfl OI.out ?_; intro W99 hW99))
  exact bodyPost_ret (results_box2 Try.results19 hW99.box rfl rfl Try.underlying25 rfl SI.out) rfl ⟨_, _, rfl, ownR_none, ownR_none, hW99.below _ _ (by omega) hB2⟩

set_option maxRecDepth 100000 in
set_option maxHeartbeats 6400000 in
theorem rcmd12_b {v : Value} {ts : List Tk} {cs : List Cmd} (c : Cmd) (hl : ts.length + cs.length ≤ 180) (hq : ChkD ts cs 0) (hg : ¬ c.Ok) (w : World) (h1 : IsD w v ts cs) : Calls Try.prog 19 #[v, .agg (ccell c).toArray] w (GivesDE [] [] 8 w) := by
  have CK := fun (W : World) (u : Value) (h : IsD W u ts cs) => rchk12_is W h (by omega) hq; have TW := fun (W : World) (u : Value) (h : IsD W u ts cs) => rtwin_is W h (by omega); have BI := fun W => build_i0 W; have SI := Lib.hid size_i0; have OI := Lib.hid one_i0
  have SV := Lib.hid (size_cmd c); have HLL := Lib.hid hl
  have IC := fun W => risc_is c (q := false) (Lib.hid ⟨fun g => absurd g hg, fun g => by cases g⟩) W
  have HD := Lib.hid h1
  obtain ⟨v1, v2, rfl, g1, g2⟩ := id h1
  obtain ⟨a1, c1, rfl, hr1⟩ := id g1; obtain ⟨a2, c2, rfl, hr2⟩ := id g2
  have m1 := hr1.most; have r1 := hr1.room; have m2 := hr2.most; have r2 := hr2.room; have H1 := Lib.hid g1; have H2 := Lib.hid g2
  clear hr1 hr2 g1 g2 h1
  obtain ⟨V, hV⟩ : ∃ X, (ccell c) = X := ⟨_, rfl⟩; rw [hV] at SV IC ⊢; clear hV hl hq hg
  go_enter Try.func19, Try.ntmps19
  go_upto_region 1 with fail
  refine F_gen (F := fun W => Code.wp _ _ _ _ W) (J := fun W => Box W (w.heap.size) ([.slice a1 ts.length c1, .slice a2 cs.length c2]) ∧ Box W (w.heap.size + 1) (V) ∧ Box W (w.heap.size + 2) (id0) ∧ Below w.heap.size w W) (And.intro (Box.alloc (Box.alloc (Box.newc rfl rfl) _) _) (And.intro (Box.alloc (Box.newc rfl (by simp)) _) (And.intro (Box.newc rfl (by simp)) (by go_grown)))) ?_
  intro w0 ⟨e_d, e_c, e_r, hB0⟩
  have hs0 := hB0.size
  have x_d0 := e_d; clear e_d
  have x_c0 := e_c; clear e_c
  have x_r0 := e_r; clear e_r
  go_wp2_with (refine wpList_load_box9 rfl _ _ rfl x_d0 rfl Try.underlying25 rfl (size_id12 _ _) ?_)
  refine (CK _ _ (HD.out.below hB0)).mono ?_
  rintro e w1 ⟨rfl, hb⟩
  have hB1 : Below w.heap.size w w1 := below_thru hB0 hb
  have hs1 := hB1.size
  have x_d1 : Box w1 (w.heap.size) ([.slice a1 ts.length c1, .slice a2 cs.length c2]) := Box.below x_d0 hb
  have x_c1 : Box w1 (w.heap.size + 1) (V) := Box.below x_c0 hb
  have x_r1 : Box w1 (w.heap.size + 2) (id0) := Box.below x_r0 hb
  clear hB0 hs0 x_d0 x_c0 x_r0
  clear hb
  go_wp2_with (refine wpList_load_box9 rfl _ _ rfl x_c1 rfl Try.underlying39 rfl SV.out ?_)
  refine (IC _).mono ?_
  rintro e w2 ⟨rfl, hb⟩
  have hB2 : Below w.heap.size w w2 := below_thru hB1 hb
  have hs2 := hB2.size
  have x_d2 : Box w2 (w.heap.size) ([.slice a1 ts.length c1, .slice a2 cs.length c2]) := Box.below x_d1 hb
  have x_c2 : Box w2 (w.heap.size + 1) (V) := Box.below x_c1 hb
  have x_r2 : Box w2 (w.heap.size + 2) (id0) := Box.below x_r1 hb
  clear hB1 hs1 x_d1 x_c1 x_r1
  clear hb
  have lq := (x_r2).lt
  go_wp2_with (first | (refine wpList_build9 rfl 25 _ rfl (us := #[]) (by rfl) (BI _) ?_) | (refine wpList_store_box (cs := id0) rfl _ _ _ rfl x_r2 rfl rfl SI.out rfl OI.out ?_; intro W99 hW99))
  exact bodyPost_ret (results_box2 Try.results19 hW99.box rfl rfl Try.underlying25 rfl SI.out) rfl ⟨_, _, rfl, ownR_none, ownR_none, hW99.below _ _ (by omega) hB2⟩

set_option maxRecDepth 100000 in
set_option maxHeartbeats 6400000 in
theorem rcmd12_c {v : Value} {ts : List Tk} {cs : List Cmd} (c : Cmd) (hl : ts.length + cs.length ≤ 180) (hq : ChkD ts cs 0) (hg : c.Ok) {i : Int} (hF : Fnd (fun u : Cmd => u.bare = c.bare) cs i) {n : Nat} {y : Cmd} (hi : i = n) (hy : cs[n]? = some y) (hne : y ≠ c) (w : World) (h1 : IsD w v ts cs) : Calls Try.prog 19 #[v, .agg (ccell c).toArray] w (GivesDE [] [] 14 w) := by
  have CK := fun (W : World) (u : Value) (h : IsD W u ts cs) => rchk12_is W h (by omega) hq; have TW := fun (W : World) (u : Value) (h : IsD W u ts cs) => rtwin_is W h (by omega); have BI := fun W => build_i0 W; have SI := Lib.hid size_i0; have OI := Lib.hid one_i0
  have SV := Lib.hid (size_cmd c); have HLL := Lib.hid hl
  have IC := fun W => risc_is c (q := true) (Lib.hid ⟨fun _ => rfl, fun _ => hg⟩) W
  have HD := Lib.hid h1
  obtain ⟨v1, v2, rfl, g1, g2⟩ := id h1
  obtain ⟨a1, c1, rfl, hr1⟩ := id g1; obtain ⟨a2, c2, rfl, hr2⟩ := id g2
  have m1 := hr1.most; have r1 := hr1.room; have m2 := hr2.most; have r2 := hr2.room; have H1 := Lib.hid g1; have H2 := Lib.hid g2
  clear hr1 hr2 g1 g2 h1
  have AT := fun (W : World) (v : Value) (h : IsR LC W v cs) => rcat_is c W h hF
  have hn := (List.getElem?_eq_some_iff.1 hy).1; subst hi
  obtain ⟨b1, o1, rfl, hX1⟩ := H2.out.get 47 rfl hy; have hX1 := Lib.hid hX1
  have d3 : decide ((0 : Int) ≤ (n : Int)) = true := decide_eq_true (by omega); have d4 : decide ((n : Int) < (cs.length : Int)) = true := decide_eq_true (by omega); have i0 : (0 : Int) ≤ (n : Int) := (by omega); have i1 : (n : Int) < (cs.length : Int) := (by omega)
  have EQ := fun W => eq_cm (c := y) (d := c) (b := false) (⟨fun g => (Bool.false_ne_true g).elim, fun g => absurd g hne⟩) W; have SY := Lib.hid (size_cmd y)
  obtain ⟨VY, hVY⟩ : ∃ X, ccell y = X := ⟨_, rfl⟩; rw [hVY] at EQ SY; rw [show LC.f y = VY from hVY] at hX1; clear hVY
  obtain ⟨V, hV⟩ : ∃ X, (ccell c) = X := ⟨_, rfl⟩; rw [hV] at SV IC AT EQ ⊢; clear hV hl hq hg hF hy hn hne
  go_enter Try.func19, Try.ntmps19
  go_upto_region 1 with fail
  refine F_gen (F := fun W => Code.wp _ _ _ _ W) (J := fun W => Box W (w.heap.size) ([.slice a1 ts.length c1, .slice (some ⟨b1, o1, none⟩) cs.length c2]) ∧ Box W (w.heap.size + 1) (V) ∧ Box W (w.heap.size + 2) (id0) ∧ Below w.heap.size w W) (And.intro (Box.alloc (Box.alloc (Box.newc rfl rfl) _) _) (And.intro (Box.alloc (Box.newc rfl (by simp)) _) (And.intro (Box.newc rfl (by simp)) (by go_grown)))) ?_
  intro w0 ⟨e_d, e_c, e_r, hB0⟩
  have hs0 := hB0.size
  have x_d0 := e_d; clear e_d
  have x_c0 := e_c; clear e_c
  have x_r0 := e_r; clear e_r
  go_wp2_with (refine wpList_load_box9 rfl _ _ rfl x_d0 rfl Try.underlying25 rfl (size_id12 _ _) ?_)
  refine (CK _ _ (HD.out.below hB0)).mono ?_
  rintro e w1 ⟨rfl, hb⟩
  have hB1 : Below w.heap.size w w1 := below_thru hB0 hb
  have hs1 := hB1.size
  have x_d1 : Box w1 (w.heap.size) ([.slice a1 ts.length c1, .slice (some ⟨b1, o1, none⟩) cs.length c2]) := Box.below x_d0 hb
  have x_c1 : Box w1 (w.heap.size + 1) (V) := Box.below x_c0 hb
  have x_r1 : Box w1 (w.heap.size + 2) (id0) := Box.below x_r0 hb
  clear hB0 hs0 x_d0 x_c0 x_r0
  clear hb
  go_wp2_with (refine wpList_load_box9 rfl _ _ rfl x_c1 rfl Try.underlying39 rfl SV.out ?_)
  refine (IC _).mono ?_
  rintro e w2 ⟨rfl, hb⟩
  have hB2 : Below w.heap.size w w2 := below_thru hB1 hb
  have hs2 := hB2.size
  have x_d2 : Box w2 (w.heap.size) ([.slice a1 ts.length c1, .slice (some ⟨b1, o1, none⟩) cs.length c2]) := Box.below x_d1 hb
  have x_c2 : Box w2 (w.heap.size + 1) (V) := Box.below x_c1 hb
  have x_r2 : Box w2 (w.heap.size + 2) (id0) := Box.below x_r1 hb
  clear hB1 hs1 x_d1 x_c1 x_r1
  clear hb
  have lr := (x_r2).lt
  go_wp2_with (refine wpList_load_box9 rfl _ _ rfl x_d2 rfl Try.underlying25 rfl (size_id12 _ _) ?_)
  refine (TW _ _ (HD.out.below hB2)).mono ?_
  rintro e w3 ⟨ta, tb, rfl, oa, ob, hb⟩
  have oa := ownR_base oa (show w.heap.size + 3 ≤ _ by omega); have ob := ownR_base ob (show w.heap.size + 3 ≤ _ by omega); clear lr 
  obtain ⟨pa, na, rfl⟩ := own_slR oa; obtain ⟨pb, nb, rfl⟩ := own_slR ob
  have hB3 : Below w.heap.size w w3 := below_thru hB2 hb
  have hs3 := hB3.size
  have x_d3 : Box w3 (w.heap.size) ([.slice a1 ts.length c1, .slice (some ⟨b1, o1, none⟩) cs.length c2]) := Box.below x_d2 hb
  have x_c3 : Box w3 (w.heap.size + 1) (V) := Box.below x_c2 hb
  have x_r3 : Box w3 (w.heap.size + 2) (id0) := Box.below x_r2 hb
  clear hB2 hs2 x_d2 x_c2 x_r2
  clear hb
  have O_ra3 : Hid (w3.ownsRow (w.heap.size + 3) 34 36 (.slice pa ts.length na) (ts.length) (flatR LT ts)) := Lib.hid (oa)
  have O_rb3 : Hid (w3.ownsRow (w.heap.size + 3) 39 47 (.slice pb cs.length nb) (cs.length) (flatR LC cs)) := Lib.hid (ob)
  clear oa ob
  have low_o := (x_r3).lt
  have d_o_d := (x_d3).lt
  have d_o_c := (x_c3).lt
  have d_o_r := (x_r3).lt
  have d_o_0 := hs3
  go_upto_region 6 with (refine wpList_store_boxT12 (cs := [.slice pa ts.length na, .slice pb cs.length nb]) rfl _ _ _ rfl (Box.newc (l := id0) rfl rfl) rfl rfl (size_id12 _ _) rfl (one_id12 _ _ _ _ _ _) ?_; intro W3_0 hW3_0 tW3_0)
  have hN : Below w3.heap.size w3 W3_0 := (hW3_0.below _ _ (by omega) ((Below.refl _ w3).alloc (Nat.le_refl _) _))
  have x_o4 : Box W3_0 (w3.heap.size) ([.slice pa ts.length na, .slice pb cs.length nb]) := hW3_0.box
  have O_ra4 : Hid (W3_0.ownsRow (w.heap.size + 3) 34 36 (.slice pa ts.length na) (ts.length) (flatR LT ts)) := Lib.hid (ownR_below O_ra3.out hN)
  have O_rb4 : Hid (W3_0.ownsRow (w.heap.size + 3) 39 47 (.slice pb cs.length nb) (cs.length) (flatR LC cs)) := Lib.hid (ownR_below O_rb3.out hN)
  clear O_ra3 O_rb3
  have hB4 : Below w.heap.size w W3_0 := below_thru hB3 hN
  have hs4 := hB4.size
  have x_d4 : Box W3_0 (w.heap.size) ([.slice a1 ts.length c1, .slice (some ⟨b1, o1, none⟩) cs.length c2]) := Box.below x_d3 hN
  have x_c4 : Box W3_0 (w.heap.size + 1) (V) := Box.below x_c3 hN
  have x_r4 : Box W3_0 (w.heap.size + 2) (id0) := Box.below x_r3 hN
  clear hB3 hs3 x_d3 x_c3 x_r3
  clear hN hW3_0
  have Y_o4 : Ty W3_0 (w3.heap.size) 25 := tW3_0 _ (Ty.newc rfl); clear tW3_0
  obtain ⟨bo, hbo⟩ : ∃ b, w3.heap.size = b := ⟨_, rfl⟩; rw [hbo] at low_o x_o4 Y_o4 ⊢; clear hbo
  have cb := (x_d4).c 1 _ rfl
  have zb := (x_d4).lt
  go_wp2_with (refine wpList_load_box9 rfl _ _ rfl x_c4 rfl Try.underlying39 rfl SV.out ?_)
  refine (AT _ _ (H2.out.below hB4)).mono ?_
  rintro e w5 ⟨rfl, hb⟩
  clear cb zb
  have O_ra5 : Hid (w5.ownsRow (w.heap.size + 3) 34 36 (.slice pa ts.length na) (ts.length) (flatR LT ts)) := Lib.hid (ownR_below O_ra4.out hb)
  have O_rb5 : Hid (w5.ownsRow (w.heap.size + 3) 39 47 (.slice pb cs.length nb) (cs.length) (flatR LC cs)) := Lib.hid (ownR_below O_rb4.out hb)
  have Y_o5 : Ty w5 (bo) 25 := Ty.below Y_o4 hb
  clear O_ra4 O_rb4 Y_o4
  have hB5 : Below w.heap.size w w5 := below_thru hB4 hb
  have hs5 := hB5.size
  have x_d5 : Box w5 (w.heap.size) ([.slice a1 ts.length c1, .slice (some ⟨b1, o1, none⟩) cs.length c2]) := Box.below x_d4 hb
  have x_c5 : Box w5 (w.heap.size + 1) (V) := Box.below x_c4 hb
  have x_r5 : Box w5 (w.heap.size + 2) (id0) := Box.below x_r4 hb
  have x_o5 : Box w5 (bo) ([.slice pa ts.length na, .slice pb cs.length nb]) := Box.below x_o4 hb
  clear hB4 hs4 x_d4 x_c4 x_r4 x_o4
  clear hb
  go_upto_region 8 with fail
  have x1 := range_below hX1.out hB5
  refine wp_region_held_drew (S := fun W => Box W (w.heap.size) ([.slice a1 ts.length c1, .slice (some ⟨b1, o1, none⟩) cs.length c2]) ∧ Box W (w.heap.size + 1) (V) ∧ Box W (w.heap.size + 2) (id0) ∧ Box W (bo) ([.slice pa ts.length na, .slice pb cs.length nb]) ∧ W.rangeAt (b1) (o1 + n * 47) (VY)) (by kernel_rfl) (And.intro (x_d5).drew (And.intro (x_c5).drew (And.intro (x_r5).drew (And.intro (x_o5).drew x1)))) (fun _ => ?_)
  refine F_drew (F := fun W => wpAnyH _ _ _ _ _ _ _ _ W) ?_
  intro Ws0 hbs0
  clear hs5
  have x_d_s0 : Box Ws0 (w.heap.size) ([.slice a1 ts.length c1, .slice (some ⟨b1, o1, none⟩) cs.length c2]) := Box.below x_d5 hbs0
  have x_c_s0 : Box Ws0 (w.heap.size + 1) (V) := Box.below x_c5 hbs0
  have x_r_s0 : Box Ws0 (w.heap.size + 2) (id0) := Box.below x_r5 hbs0
  have x_o_s0 : Box Ws0 (bo) ([.slice pa ts.length na, .slice pb cs.length nb]) := Box.below x_o5 hbs0
  have c_g_s0 := range_below x1 hbs0
  have y_o_s0 := Ty.below Y_o5 hbs0
  have o_ra_s0 := Lib.hid (ownR_below O_ra5.out hbs0)
  have o_rb_s0 := Lib.hid (ownR_below O_rb5.out hbs0)
  have Bs0 := below_thru hB5 hbs0
  clear x_d5 x_c5 x_r5 x_o5 x1 Y_o5 O_ra5 O_rb5 hB5 hbs0
  refine takeH 0 26 (v := ?vs0_1) rfl (by rfl) (by kernel_rfl) (by kernel_rfl) (by kernel_rfl) (fun _ _ _ h => h) (Or.inl ⟨by rfl, ?_⟩) ((And.intro x_d_s0 (And.intro x_c_s0 (And.intro x_r_s0 (And.intro x_o_s0 c_g_s0))))) ?_
  rotate_left
  · intro wq hSq
    go_simp
    exact rfl
  try simp only [Act.put, List.setIfInBounds_toArray, List.set_cons_zero, List.set_cons_succ]
  refine takeH 1 27 (v := ?vs1_2) rfl (by rfl) (by kernel_rfl) (by kernel_rfl) (by kernel_rfl) (fun _ _ _ h => h) (Or.inl ⟨by rfl, ?_⟩) ((And.intro x_d_s0 (And.intro x_c_s0 (And.intro x_r_s0 (And.intro x_o_s0 c_g_s0))))) ?_
  rotate_left
  · intro wq hSq
    have cq := (hSq.1).c 1 _ rfl
    have zq := lt_of_cell cq
    go_simp
    exact rfl
  try simp only [Act.put, List.setIfInBounds_toArray, List.set_cons_zero, List.set_cons_succ]
  refine takeH 2 28 (v := ?vs2_3) rfl (by rfl) (by kernel_rfl) (by kernel_rfl) (by kernel_rfl) (fun _ _ _ h => h) (Or.inl ⟨by rfl, ?_⟩) ((And.intro x_d_s0 (And.intro x_c_s0 (And.intro x_r_s0 (And.intro x_o_s0 c_g_s0))))) ?_
  rotate_left
  · intro wq hSq
    go_simp
    exact rfl
  try simp only [Act.put, List.setIfInBounds_toArray, List.set_cons_zero, List.set_cons_succ]
  refine takeH 3 29 (v := ?vs3_4) rfl (by rfl) (by kernel_rfl) (by kernel_rfl) (by kernel_rfl) (fun _ _ _ h => h) (Or.inl ⟨by rfl, ?_⟩) ((And.intro x_d_s0 (And.intro x_c_s0 (And.intro x_r_s0 (And.intro x_o_s0 c_g_s0))))) ?_
  rotate_left
  · intro wq hSq
    go_simp
    exact rfl
  try simp only [Act.put, List.setIfInBounds_toArray, List.set_cons_zero, List.set_cons_succ]
  refine takeH 4 30 (v := .agg (VY).toArray) rfl (by rfl) (by kernel_rfl) (by kernel_rfl) (by kernel_rfl) (fun _ _ _ h => h) (yieldsIf_load_mid (by rfl) _ _ rfl _ _ rfl (VY) _ (fun wq hq => hq.2.2.2.2) Try.underlying39 rfl SY.out) ((And.intro x_d_s0 (And.intro x_c_s0 (And.intro x_r_s0 (And.intro x_o_s0 c_g_s0))))) ?_
  try simp only [Act.put, List.setIfInBounds_toArray, List.set_cons_zero, List.set_cons_succ]
  refine takeH 5 31 (v := .agg (V).toArray) rfl (by rfl) (by kernel_rfl) (by kernel_rfl) (by kernel_rfl) (fun _ _ _ h => h) (yieldsIf_load_mid (by rfl) _ _ rfl _ _ rfl (V) _ (fun wq hq => Box.range (hq.2.1)) Try.underlying39 rfl SV.out) ((And.intro x_d_s0 (And.intro x_c_s0 (And.intro x_r_s0 (And.intro x_o_s0 c_g_s0))))) ?_
  try simp only [Act.put, List.setIfInBounds_toArray, List.set_cons_zero, List.set_cons_succ]
  refine takeH 6 32 (v := ?vs6_5) rfl (by rfl) (by kernel_rfl) (by kernel_rfl) (by kernel_rfl) (fun _ _ _ h => h) (Or.inl ⟨by rfl, ?_⟩) ((And.intro x_d_s0 (And.intro x_c_s0 (And.intro x_r_s0 (And.intro x_o_s0 c_g_s0))))) ?_
  rotate_left
  · intro wq hSq
    go_simp
    exact rfl
  try simp only [Act.put, List.setIfInBounds_toArray, List.set_cons_zero, List.set_cons_succ]
  refine wpAnyH_done (by kernel_rfl) ?_ _
  have hB6 := Bs0; have hs6 := hB6.size
  have x_d6 := x_d_s0
  have x_c6 := x_c_s0
  have x_r6 := x_r_s0
  have x_o6 := x_o_s0
  have Y_o6 := y_o_s0
  have O_ra6 := o_ra_s0
  have O_rb6 := o_rb_s0
  clear Bs0 x_d_s0 x_c_s0 x_r_s0 x_o_s0 y_o_s0 o_ra_s0 o_rb_s0
  have lq := (x_r6).lt
  go_wp2_with (first | (refine wpList_build9 rfl 25 _ rfl (us := #[]) (by rfl) (BI _) ?_) | (refine wpList_store_box (cs := id0) rfl _ _ _ rfl x_r6 rfl rfl SI.out rfl OI.out ?_; intro W99 hW99))
  exact bodyPost_ret (results_box2 Try.results19 hW99.box rfl rfl Try.underlying25 rfl SI.out) rfl ⟨_, _, rfl, ownR_none, ownR_none, hW99.below _ _ (by omega) hB6⟩

set_option maxRecDepth 100000 in
set_option maxHeartbeats 6400000 in
theorem rcmd12_d {v : Value} {ts : List Tk} {cs : List Cmd} (c : Cmd) (hl : ts.length + cs.length ≤ 180) (hq : ChkD ts cs 0) (hg : c.Ok) {i : Int} (hF : Fnd (fun u : Cmd => u.bare = c.bare) cs i) {n : Nat} {y : Cmd} (hi : i = n) (hy : cs[n]? = some y) (he : y = c) (w : World) (h1 : IsD w v ts cs) : Calls Try.prog 19 #[v, .agg (ccell c).toArray] w (GivesDE ts cs 0 w) := by
  have CK := fun (W : World) (u : Value) (h : IsD W u ts cs) => rchk12_is W h (by omega) hq; have TW := fun (W : World) (u : Value) (h : IsD W u ts cs) => rtwin_is W h (by omega); have BI := fun W => build_i0 W; have SI := Lib.hid size_i0; have OI := Lib.hid one_i0
  have SV := Lib.hid (size_cmd c); have HLL := Lib.hid hl
  have IC := fun W => risc_is c (q := true) (Lib.hid ⟨fun _ => rfl, fun _ => hg⟩) W
  have HD := Lib.hid h1
  obtain ⟨v1, v2, rfl, g1, g2⟩ := id h1
  obtain ⟨a1, c1, rfl, hr1⟩ := id g1; obtain ⟨a2, c2, rfl, hr2⟩ := id g2
  have m1 := hr1.most; have r1 := hr1.room; have m2 := hr2.most; have r2 := hr2.room; have H1 := Lib.hid g1; have H2 := Lib.hid g2
  clear hr1 hr2 g1 g2 h1
  have AT := fun (W : World) (v : Value) (h : IsR LC W v cs) => rcat_is c W h hF
  have hn := (List.getElem?_eq_some_iff.1 hy).1; subst hi
  obtain ⟨b1, o1, rfl, hX1⟩ := H2.out.get 47 rfl hy; have hX1 := Lib.hid hX1
  have d3 : decide ((0 : Int) ≤ (n : Int)) = true := decide_eq_true (by omega); have d4 : decide ((n : Int) < (cs.length : Int)) = true := decide_eq_true (by omega); have i0 : (0 : Int) ≤ (n : Int) := (by omega); have i1 : (n : Int) < (cs.length : Int) := (by omega)
  have EQ := fun W => eq_cm (c := y) (d := c) (b := true) (⟨fun _ => he, fun _ => rfl⟩) W; have SY := Lib.hid (size_cmd y)
  obtain ⟨VY, hVY⟩ : ∃ X, ccell y = X := ⟨_, rfl⟩; rw [hVY] at EQ SY; rw [show LC.f y = VY from hVY] at hX1; clear hVY
  obtain ⟨V, hV⟩ : ∃ X, (ccell c) = X := ⟨_, rfl⟩; rw [hV] at SV IC AT EQ ⊢; clear hV hl hq hg hF hy hn he
  go_enter Try.func19, Try.ntmps19
  go_upto_region 1 with fail
  refine F_gen (F := fun W => Code.wp _ _ _ _ W) (J := fun W => Box W (w.heap.size) ([.slice a1 ts.length c1, .slice (some ⟨b1, o1, none⟩) cs.length c2]) ∧ Box W (w.heap.size + 1) (V) ∧ Box W (w.heap.size + 2) (id0) ∧ Below w.heap.size w W) (And.intro (Box.alloc (Box.alloc (Box.newc rfl rfl) _) _) (And.intro (Box.alloc (Box.newc rfl (by simp)) _) (And.intro (Box.newc rfl (by simp)) (by go_grown)))) ?_
  intro w0 ⟨e_d, e_c, e_r, hB0⟩
  have hs0 := hB0.size
  have x_d0 := e_d; clear e_d
  have x_c0 := e_c; clear e_c
  have x_r0 := e_r; clear e_r
  go_wp2_with (refine wpList_load_box9 rfl _ _ rfl x_d0 rfl Try.underlying25 rfl (size_id12 _ _) ?_)
  refine (CK _ _ (HD.out.below hB0)).mono ?_
  rintro e w1 ⟨rfl, hb⟩
  have hB1 : Below w.heap.size w w1 := below_thru hB0 hb
  have hs1 := hB1.size
  have x_d1 : Box w1 (w.heap.size) ([.slice a1 ts.length c1, .slice (some ⟨b1, o1, none⟩) cs.length c2]) := Box.below x_d0 hb
  have x_c1 : Box w1 (w.heap.size + 1) (V) := Box.below x_c0 hb
  have x_r1 : Box w1 (w.heap.size + 2) (id0) := Box.below x_r0 hb
  clear hB0 hs0 x_d0 x_c0 x_r0
  clear hb
  go_wp2_with (refine wpList_load_box9 rfl _ _ rfl x_c1 rfl Try.underlying39 rfl SV.out ?_)
  refine (IC _).mono ?_
  rintro e w2 ⟨rfl, hb⟩
  have hB2 : Below w.heap.size w w2 := below_thru hB1 hb
  have hs2 := hB2.size
  have x_d2 : Box w2 (w.heap.size) ([.slice a1 ts.length c1, .slice (some ⟨b1, o1, none⟩) cs.length c2]) := Box.below x_d1 hb
  have x_c2 : Box w2 (w.heap.size + 1) (V) := Box.below x_c1 hb
  have x_r2 : Box w2 (w.heap.size + 2) (id0) := Box.below x_r1 hb
  clear hB1 hs1 x_d1 x_c1 x_r1
  clear hb
  have lr := (x_r2).lt
  go_wp2_with (refine wpList_load_box9 rfl _ _ rfl x_d2 rfl Try.underlying25 rfl (size_id12 _ _) ?_)
  refine (TW _ _ (HD.out.below hB2)).mono ?_
  rintro e w3 ⟨ta, tb, rfl, oa, ob, hb⟩
  have oa := ownR_base oa (show w.heap.size + 3 ≤ _ by omega); have ob := ownR_base ob (show w.heap.size + 3 ≤ _ by omega); clear lr 
  obtain ⟨pa, na, rfl⟩ := own_slR oa; obtain ⟨pb, nb, rfl⟩ := own_slR ob
  have hB3 : Below w.heap.size w w3 := below_thru hB2 hb
  have hs3 := hB3.size
  have x_d3 : Box w3 (w.heap.size) ([.slice a1 ts.length c1, .slice (some ⟨b1, o1, none⟩) cs.length c2]) := Box.below x_d2 hb
  have x_c3 : Box w3 (w.heap.size + 1) (V) := Box.below x_c2 hb
  have x_r3 : Box w3 (w.heap.size + 2) (id0) := Box.below x_r2 hb
  clear hB2 hs2 x_d2 x_c2 x_r2
  clear hb
  have O_ra3 : Hid (w3.ownsRow (w.heap.size + 3) 34 36 (.slice pa ts.length na) (ts.length) (flatR LT ts)) := Lib.hid (oa)
  have O_rb3 : Hid (w3.ownsRow (w.heap.size + 3) 39 47 (.slice pb cs.length nb) (cs.length) (flatR LC cs)) := Lib.hid (ob)
  clear oa ob
  have low_o := (x_r3).lt
  have d_o_d := (x_d3).lt
  have d_o_c := (x_c3).lt
  have d_o_r := (x_r3).lt
  have d_o_0 := hs3
  go_upto_region 6 with (refine wpList_store_boxT12 (cs := [.slice pa ts.length na, .slice pb cs.length nb]) rfl _ _ _ rfl (Box.newc (l := id0) rfl rfl) rfl rfl (size_id12 _ _) rfl (one_id12 _ _ _ _ _ _) ?_; intro W3_0 hW3_0 tW3_0)
  have hN : Below w3.heap.size w3 W3_0 := (hW3_0.below _ _ (by omega) ((Below.refl _ w3).alloc (Nat.le_refl _) _))
  have x_o4 : Box W3_0 (w3.heap.size) ([.slice pa ts.length na, .slice pb cs.length nb]) := hW3_0.box
  have O_ra4 : Hid (W3_0.ownsRow (w.heap.size + 3) 34 36 (.slice pa ts.length na) (ts.length) (flatR LT ts)) := Lib.hid (ownR_below O_ra3.out hN)
  have O_rb4 : Hid (W3_0.ownsRow (w.heap.size + 3) 39 47 (.slice pb cs.length nb) (cs.length) (flatR LC cs)) := Lib.hid (ownR_below O_rb3.out hN)
  clear O_ra3 O_rb3
  have hB4 : Below w.heap.size w W3_0 := below_thru hB3 hN
  have hs4 := hB4.size
  have x_d4 : Box W3_0 (w.heap.size) ([.slice a1 ts.length c1, .slice (some ⟨b1, o1, none⟩) cs.length c2]) := Box.below x_d3 hN
  have x_c4 : Box W3_0 (w.heap.size + 1) (V) := Box.below x_c3 hN
  have x_r4 : Box W3_0 (w.heap.size + 2) (id0) := Box.below x_r3 hN
  clear hB3 hs3 x_d3 x_c3 x_r3
  clear hN hW3_0
  have Y_o4 : Ty W3_0 (w3.heap.size) 25 := tW3_0 _ (Ty.newc rfl); clear tW3_0
  obtain ⟨bo, hbo⟩ : ∃ b, w3.heap.size = b := ⟨_, rfl⟩; rw [hbo] at low_o x_o4 Y_o4 ⊢; clear hbo
  have cb := (x_d4).c 1 _ rfl
  have zb := (x_d4).lt
  go_wp2_with (refine wpList_load_box9 rfl _ _ rfl x_c4 rfl Try.underlying39 rfl SV.out ?_)
  refine (AT _ _ (H2.out.below hB4)).mono ?_
  rintro e w5 ⟨rfl, hb⟩
  clear cb zb
  have O_ra5 : Hid (w5.ownsRow (w.heap.size + 3) 34 36 (.slice pa ts.length na) (ts.length) (flatR LT ts)) := Lib.hid (ownR_below O_ra4.out hb)
  have O_rb5 : Hid (w5.ownsRow (w.heap.size + 3) 39 47 (.slice pb cs.length nb) (cs.length) (flatR LC cs)) := Lib.hid (ownR_below O_rb4.out hb)
  have Y_o5 : Ty w5 (bo) 25 := Ty.below Y_o4 hb
  clear O_ra4 O_rb4 Y_o4
  have hB5 : Below w.heap.size w w5 := below_thru hB4 hb
  have hs5 := hB5.size
  have x_d5 : Box w5 (w.heap.size) ([.slice a1 ts.length c1, .slice (some ⟨b1, o1, none⟩) cs.length c2]) := Box.below x_d4 hb
  have x_c5 : Box w5 (w.heap.size + 1) (V) := Box.below x_c4 hb
  have x_r5 : Box w5 (w.heap.size + 2) (id0) := Box.below x_r4 hb
  have x_o5 : Box w5 (bo) ([.slice pa ts.length na, .slice pb cs.length nb]) := Box.below x_o4 hb
  clear hB4 hs4 x_d4 x_c4 x_r4 x_o4
  clear hb
  go_upto_region 8 with fail
  have x1 := range_below hX1.out hB5
  refine wp_region_held_drew (S := fun W => Box W (w.heap.size) ([.slice a1 ts.length c1, .slice (some ⟨b1, o1, none⟩) cs.length c2]) ∧ Box W (w.heap.size + 1) (V) ∧ Box W (w.heap.size + 2) (id0) ∧ Box W (bo) ([.slice pa ts.length na, .slice pb cs.length nb]) ∧ W.rangeAt (b1) (o1 + n * 47) (VY)) (by kernel_rfl) (And.intro (x_d5).drew (And.intro (x_c5).drew (And.intro (x_r5).drew (And.intro (x_o5).drew x1)))) (fun _ => ?_)
  refine F_drew (F := fun W => wpAnyH _ _ _ _ _ _ _ _ W) ?_
  intro Ws0 hbs0
  clear hs5
  have x_d_s0 : Box Ws0 (w.heap.size) ([.slice a1 ts.length c1, .slice (some ⟨b1, o1, none⟩) cs.length c2]) := Box.below x_d5 hbs0
  have x_c_s0 : Box Ws0 (w.heap.size + 1) (V) := Box.below x_c5 hbs0
  have x_r_s0 : Box Ws0 (w.heap.size + 2) (id0) := Box.below x_r5 hbs0
  have x_o_s0 : Box Ws0 (bo) ([.slice pa ts.length na, .slice pb cs.length nb]) := Box.below x_o5 hbs0
  have c_g_s0 := range_below x1 hbs0
  have y_o_s0 := Ty.below Y_o5 hbs0
  have o_ra_s0 := Lib.hid (ownR_below O_ra5.out hbs0)
  have o_rb_s0 := Lib.hid (ownR_below O_rb5.out hbs0)
  have Bs0 := below_thru hB5 hbs0
  clear x_d5 x_c5 x_r5 x_o5 x1 Y_o5 O_ra5 O_rb5 hB5 hbs0
  refine takeH 0 26 (v := ?vs0_1) rfl (by rfl) (by kernel_rfl) (by kernel_rfl) (by kernel_rfl) (fun _ _ _ h => h) (Or.inl ⟨by rfl, ?_⟩) ((And.intro x_d_s0 (And.intro x_c_s0 (And.intro x_r_s0 (And.intro x_o_s0 c_g_s0))))) ?_
  rotate_left
  · intro wq hSq
    go_simp
    exact rfl
  try simp only [Act.put, List.setIfInBounds_toArray, List.set_cons_zero, List.set_cons_succ]
  refine takeH 1 27 (v := ?vs1_2) rfl (by rfl) (by kernel_rfl) (by kernel_rfl) (by kernel_rfl) (fun _ _ _ h => h) (Or.inl ⟨by rfl, ?_⟩) ((And.intro x_d_s0 (And.intro x_c_s0 (And.intro x_r_s0 (And.intro x_o_s0 c_g_s0))))) ?_
  rotate_left
  · intro wq hSq
    have cq := (hSq.1).c 1 _ rfl
    have zq := lt_of_cell cq
    go_simp
    exact rfl
  try simp only [Act.put, List.setIfInBounds_toArray, List.set_cons_zero, List.set_cons_succ]
  refine takeH 2 28 (v := ?vs2_3) rfl (by rfl) (by kernel_rfl) (by kernel_rfl) (by kernel_rfl) (fun _ _ _ h => h) (Or.inl ⟨by rfl, ?_⟩) ((And.intro x_d_s0 (And.intro x_c_s0 (And.intro x_r_s0 (And.intro x_o_s0 c_g_s0))))) ?_
  rotate_left
  · intro wq hSq
    go_simp
    exact rfl
  try simp only [Act.put, List.setIfInBounds_toArray, List.set_cons_zero, List.set_cons_succ]
  refine takeH 3 29 (v := ?vs3_4) rfl (by rfl) (by kernel_rfl) (by kernel_rfl) (by kernel_rfl) (fun _ _ _ h => h) (Or.inl ⟨by rfl, ?_⟩) ((And.intro x_d_s0 (And.intro x_c_s0 (And.intro x_r_s0 (And.intro x_o_s0 c_g_s0))))) ?_
  rotate_left
  · intro wq hSq
    go_simp
    exact rfl
  try simp only [Act.put, List.setIfInBounds_toArray, List.set_cons_zero, List.set_cons_succ]
  refine takeH 4 30 (v := .agg (VY).toArray) rfl (by rfl) (by kernel_rfl) (by kernel_rfl) (by kernel_rfl) (fun _ _ _ h => h) (yieldsIf_load_mid (by rfl) _ _ rfl _ _ rfl (VY) _ (fun wq hq => hq.2.2.2.2) Try.underlying39 rfl SY.out) ((And.intro x_d_s0 (And.intro x_c_s0 (And.intro x_r_s0 (And.intro x_o_s0 c_g_s0))))) ?_
  try simp only [Act.put, List.setIfInBounds_toArray, List.set_cons_zero, List.set_cons_succ]
  refine takeH 5 31 (v := .agg (V).toArray) rfl (by rfl) (by kernel_rfl) (by kernel_rfl) (by kernel_rfl) (fun _ _ _ h => h) (yieldsIf_load_mid (by rfl) _ _ rfl _ _ rfl (V) _ (fun wq hq => Box.range (hq.2.1)) Try.underlying39 rfl SV.out) ((And.intro x_d_s0 (And.intro x_c_s0 (And.intro x_r_s0 (And.intro x_o_s0 c_g_s0))))) ?_
  try simp only [Act.put, List.setIfInBounds_toArray, List.set_cons_zero, List.set_cons_succ]
  refine takeH 6 32 (v := ?vs6_5) rfl (by rfl) (by kernel_rfl) (by kernel_rfl) (by kernel_rfl) (fun _ _ _ h => h) (Or.inl ⟨by rfl, ?_⟩) ((And.intro x_d_s0 (And.intro x_c_s0 (And.intro x_r_s0 (And.intro x_o_s0 c_g_s0))))) ?_
  rotate_left
  · intro wq hSq
    go_simp
    exact rfl
  try simp only [Act.put, List.setIfInBounds_toArray, List.set_cons_zero, List.set_cons_succ]
  refine wpAnyH_done (by kernel_rfl) ?_ _
  have hB6 := Bs0; have hs6 := hB6.size
  have x_d6 := x_d_s0
  have x_c6 := x_c_s0
  have x_r6 := x_r_s0
  have x_o6 := x_o_s0
  have Y_o6 := y_o_s0
  have O_ra6 := o_ra_s0
  have O_rb6 := o_rb_s0
  clear Bs0 x_d_s0 x_c_s0 x_r_s0 x_o_s0 y_o_s0 o_ra_s0 o_rb_s0
  have lq := (x_r6).lt
  go_wp2_with (first | (refine wpList_load_box9 rfl _ _ rfl x_o6 rfl Try.underlying25 rfl (size_id12 _ _) ?_) | (refine wpList_store_box (cs := [.slice pa ts.length na, .slice pb cs.length nb]) rfl _ _ _ rfl x_r6 rfl rfl (size_id12 _ _) rfl (one_id12 _ _ _ _ _ _) ?_; intro W99 hW99))
  exact bodyPost_ret (results_box2 Try.results19 hW99.box rfl rfl Try.underlying25 rfl (size_id12 _ _)) rfl ⟨_, _, rfl, ownR_base (ownR_stored hW99 O_ra6.out (by omega)) (by omega), ownR_base (ownR_stored hW99 O_rb6.out (by omega)) (by omega), hW99.below _ _ (by omega) hB6⟩

set_option maxRecDepth 100000 in
set_option maxHeartbeats 6400000 in
theorem rcmd12_e {v : Value} {ts : List Tk} {cs : List Cmd} (c : Cmd) (hl : ts.length + cs.length ≤ 180) (hq : ChkD ts cs 0) (hg : c.Ok) {i : Int} (hF : Fnd (fun u : Cmd => u.bare = c.bare) cs i) (hi : i = -1) (hno : ∀ u ∈ cs, u.bare ≠ c.bare) (hm : ts.length + cs.length < 100) (w : World) (h1 : IsD w v ts cs) : Calls Try.prog 19 #[v, .agg (ccell c).toArray] w (GivesDE ts (cs ++ [c]) 0 w) := by
  have CK := fun (W : World) (u : Value) (h : IsD W u ts cs) => rchk12_is W h (by omega) hq; have TW := fun (W : World) (u : Value) (h : IsD W u ts cs) => rtwin_is W h (by omega); have BI := fun W => build_i0 W; have SI := Lib.hid size_i0; have OI := Lib.hid one_i0
  have SV := Lib.hid (size_cmd c); have HLL := Lib.hid hl
  have IC := fun W => risc_is c (q := true) (Lib.hid ⟨fun _ => rfl, fun _ => hg⟩) W
  have HD := Lib.hid h1
  obtain ⟨v1, v2, rfl, g1, g2⟩ := id h1
  obtain ⟨a1, c1, rfl, hr1⟩ := id g1; obtain ⟨a2, c2, rfl, hr2⟩ := id g2
  have m1 := hr1.most; have r1 := hr1.room; have m2 := hr2.most; have r2 := hr2.room; have H1 := Lib.hid g1; have H2 := Lib.hid g2
  clear hr1 hr2 g1 g2 h1
  have AT := fun (W : World) (v : Value) (h : IsR LC W v cs) => rcat_is c W h hF
  subst hi; have d3 : decide ((0 : Int) ≤ (-1 : Int)) = false := rfl
  obtain ⟨ti, hin, hz0, hz1, hz2⟩ := info_parts info_cm12
  have HB := fun W => run_bsliceN (P := Try.prog) (n := 1) W 23 39 ti _ 47 Try.underlying23 hin hz0 hz1 rfl [(ccell c)] (by simp [ccell_len c]) (by decide) (by simp) #[(0, .agg (ccell c).toArray)] rfl rfl (by decide)
  rw [show [(ccell c)].flatten = (ccell c) by simp] at HB; replace HB := Lib.hid HB
  have EV : Hid ((ccell c) = flatR LC [c]) := Lib.hid (flatR_one LC c).symm
  have CK2 := fun (W : World) (u : Value) (h : IsD W u ts (cs ++ [c])) => rchk12_is W h (by simp; omega) (ChkD.put_c hq hg hno)
  rw [if_pos hm] at CK2
  obtain ⟨V, hV⟩ : ∃ X, (ccell c) = X := ⟨_, rfl⟩; rw [hV] at SV IC AT HB EV ⊢; clear hV hl hq hg hF hno hm
  go_enter Try.func19, Try.ntmps19
  go_upto_region 1 with fail
  refine F_gen (F := fun W => Code.wp _ _ _ _ W) (J := fun W => Box W (w.heap.size) ([.slice a1 ts.length c1, .slice a2 cs.length c2]) ∧ Box W (w.heap.size + 1) (V) ∧ Box W (w.heap.size + 2) (id0) ∧ Below w.heap.size w W) (And.intro (Box.alloc (Box.alloc (Box.newc rfl rfl) _) _) (And.intro (Box.alloc (Box.newc rfl (by simp)) _) (And.intro (Box.newc rfl (by simp)) (by go_grown)))) ?_
  intro w0 ⟨e_d, e_c, e_r, hB0⟩
  have hs0 := hB0.size
  have x_d0 := e_d; clear e_d
  have x_c0 := e_c; clear e_c
  have x_r0 := e_r; clear e_r
  go_wp2_with (refine wpList_load_box9 rfl _ _ rfl x_d0 rfl Try.underlying25 rfl (size_id12 _ _) ?_)
  refine (CK _ _ (HD.out.below hB0)).mono ?_
  rintro e w1 ⟨rfl, hb⟩
  have hB1 : Below w.heap.size w w1 := below_thru hB0 hb
  have hs1 := hB1.size
  have x_d1 : Box w1 (w.heap.size) ([.slice a1 ts.length c1, .slice a2 cs.length c2]) := Box.below x_d0 hb
  have x_c1 : Box w1 (w.heap.size + 1) (V) := Box.below x_c0 hb
  have x_r1 : Box w1 (w.heap.size + 2) (id0) := Box.below x_r0 hb
  clear hB0 hs0 x_d0 x_c0 x_r0
  clear hb
  go_wp2_with (refine wpList_load_box9 rfl _ _ rfl x_c1 rfl Try.underlying39 rfl SV.out ?_)
  refine (IC _).mono ?_
  rintro e w2 ⟨rfl, hb⟩
  have hB2 : Below w.heap.size w w2 := below_thru hB1 hb
  have hs2 := hB2.size
  have x_d2 : Box w2 (w.heap.size) ([.slice a1 ts.length c1, .slice a2 cs.length c2]) := Box.below x_d1 hb
  have x_c2 : Box w2 (w.heap.size + 1) (V) := Box.below x_c1 hb
  have x_r2 : Box w2 (w.heap.size + 2) (id0) := Box.below x_r1 hb
  clear hB1 hs1 x_d1 x_c1 x_r1
  clear hb
  have lr := (x_r2).lt
  go_wp2_with (refine wpList_load_box9 rfl _ _ rfl x_d2 rfl Try.underlying25 rfl (size_id12 _ _) ?_)
  refine (TW _ _ (HD.out.below hB2)).mono ?_
  rintro e w3 ⟨ta, tb, rfl, oa, ob, hb⟩
  have oa := ownR_base oa (show w.heap.size + 3 ≤ _ by omega); have ob := ownR_base ob (show w.heap.size + 3 ≤ _ by omega); clear lr 
  obtain ⟨pa, na, rfl⟩ := own_slR oa; obtain ⟨pb, nb, rfl⟩ := own_slR ob
  have hB3 : Below w.heap.size w w3 := below_thru hB2 hb
  have hs3 := hB3.size
  have x_d3 : Box w3 (w.heap.size) ([.slice a1 ts.length c1, .slice a2 cs.length c2]) := Box.below x_d2 hb
  have x_c3 : Box w3 (w.heap.size + 1) (V) := Box.below x_c2 hb
  have x_r3 : Box w3 (w.heap.size + 2) (id0) := Box.below x_r2 hb
  clear hB2 hs2 x_d2 x_c2 x_r2
  clear hb
  have O_ra3 : Hid (w3.ownsRow (w.heap.size + 3) 34 36 (.slice pa ts.length na) (ts.length) (flatR LT ts)) := Lib.hid (oa)
  have O_rb3 : Hid (w3.ownsRow (w.heap.size + 3) 39 47 (.slice pb cs.length nb) (cs.length) (flatR LC cs)) := Lib.hid (ob)
  clear oa ob
  have low_o := (x_r3).lt
  have d_o_d := (x_d3).lt
  have d_o_c := (x_c3).lt
  have d_o_r := (x_r3).lt
  have d_o_0 := hs3
  go_upto_region 6 with (refine wpList_store_boxT12 (cs := [.slice pa ts.length na, .slice pb cs.length nb]) rfl _ _ _ rfl (Box.newc (l := id0) rfl rfl) rfl rfl (size_id12 _ _) rfl (one_id12 _ _ _ _ _ _) ?_; intro W3_0 hW3_0 tW3_0)
  have hN : Below w3.heap.size w3 W3_0 := (hW3_0.below _ _ (by omega) ((Below.refl _ w3).alloc (Nat.le_refl _) _))
  have x_o4 : Box W3_0 (w3.heap.size) ([.slice pa ts.length na, .slice pb cs.length nb]) := hW3_0.box
  have O_ra4 : Hid (W3_0.ownsRow (w.heap.size + 3) 34 36 (.slice pa ts.length na) (ts.length) (flatR LT ts)) := Lib.hid (ownR_below O_ra3.out hN)
  have O_rb4 : Hid (W3_0.ownsRow (w.heap.size + 3) 39 47 (.slice pb cs.length nb) (cs.length) (flatR LC cs)) := Lib.hid (ownR_below O_rb3.out hN)
  clear O_ra3 O_rb3
  have hB4 : Below w.heap.size w W3_0 := below_thru hB3 hN
  have hs4 := hB4.size
  have x_d4 : Box W3_0 (w.heap.size) ([.slice a1 ts.length c1, .slice a2 cs.length c2]) := Box.below x_d3 hN
  have x_c4 : Box W3_0 (w.heap.size + 1) (V) := Box.below x_c3 hN
  have x_r4 : Box W3_0 (w.heap.size + 2) (id0) := Box.below x_r3 hN
  clear hB3 hs3 x_d3 x_c3 x_r3
  clear hN hW3_0
  have Y_o4 : Ty W3_0 (w3.heap.size) 25 := tW3_0 _ (Ty.newc rfl); clear tW3_0
  obtain ⟨bo, hbo⟩ : ∃ b, w3.heap.size = b := ⟨_, rfl⟩; rw [hbo] at low_o x_o4 Y_o4 ⊢; clear hbo
  have cb := (x_d4).c 1 _ rfl
  have zb := (x_d4).lt
  go_wp2_with (refine wpList_load_box9 rfl _ _ rfl x_c4 rfl Try.underlying39 rfl SV.out ?_)
  refine (AT _ _ (H2.out.below hB4)).mono ?_
  rintro e w5 ⟨rfl, hb⟩
  clear cb zb
  have O_ra5 : Hid (w5.ownsRow (w.heap.size + 3) 34 36 (.slice pa ts.length na) (ts.length) (flatR LT ts)) := Lib.hid (ownR_below O_ra4.out hb)
  have O_rb5 : Hid (w5.ownsRow (w.heap.size + 3) 39 47 (.slice pb cs.length nb) (cs.length) (flatR LC cs)) := Lib.hid (ownR_below O_rb4.out hb)
  have Y_o5 : Ty w5 (bo) 25 := Ty.below Y_o4 hb
  clear O_ra4 O_rb4 Y_o4
  have hB5 : Below w.heap.size w w5 := below_thru hB4 hb
  have hs5 := hB5.size
  have x_d5 : Box w5 (w.heap.size) ([.slice a1 ts.length c1, .slice a2 cs.length c2]) := Box.below x_d4 hb
  have x_c5 : Box w5 (w.heap.size + 1) (V) := Box.below x_c4 hb
  have x_r5 : Box w5 (w.heap.size + 2) (id0) := Box.below x_r4 hb
  have x_o5 : Box w5 (bo) ([.slice pa ts.length na, .slice pb cs.length nb]) := Box.below x_o4 hb
  clear hB4 hs4 x_d4 x_c4 x_r4 x_o4
  clear hb
  have cc := (x_o5).c 1 _ rfl
  have zc := (x_o5).lt
  have lz_d := (x_d5).lt
  have lz_c := (x_c5).lt
  have lz_r := (x_r5).lt
  have HIR : IsR LC (w5.alloc (.cells V.toArray 39)) (.slice (some ⟨w5.heap.size, 0, none⟩) 1 1) [c] := IsR.ofBox (Box.newc rfl rfl) EV.out rfl (by decide)
  have OM : (w5.alloc (.cells V.toArray 39)).ownsRow (w.heap.size + 3) 39 47 (.slice pb cs.length nb) (cs.length) (flatR LC cs) := ownR_below O_rb5.out ((Below.refl _ _).alloc (Nat.le_refl _) _)
  have OX : (w5.alloc (.cells V.toArray 39)).ownsRow (w.heap.size + 3) 34 36 (.slice pa ts.length na) (ts.length) (flatR LT ts) := ownR_below O_ra5.out ((Below.refl _ _).alloc (Nat.le_refl _) _)
  have XO := Box.alloc x_o5 (.cells V.toArray 39); have YO := Ty.alloc Y_o5 (.cells V.toArray 39)
  have zb : w.heap.size + 3 ≤ (w5.alloc (.cells V.toArray 39)).heap.size := by simp; omega
  go_upto_region 12 with (first | (refine wpList_load_box9 rfl _ _ rfl x_c5 rfl Try.underlying39 rfl SV.out ?_) | (refine wpList_bsliceN rfl 23 1 _ rfl (us := #[(0, .agg V.toArray)]) (by rfl) (HB.out _) ?_) | (at_builtin; refine wpList_append_rows rfl LC _ _ 23 rfl (w.heap.size + 3) 39 ti (.agg (ccell Cmd.zero).toArray) 47 136 rfl Try.underlying23 hin hz0 hz1 hz2 rfl _ cs.length _ rfl OM _ [c] rfl HIR (by have := HLL.out; unfold maxLen; simp; omega) (by have := HLL.out; simp; omega) zb ?_; intro v40 w40 own4 gr4; obtain ⟨p4, n4, rfl⟩ := own_slR own4; have XP := Box.grownT XO YO OM (by decide) gr4) | (refine wpList_store_cell (k := 1) (ws := [.slice pa ts.length na, .slice p4 (cs.length + 1) n4]) (v := .slice p4 (cs.length + 1) n4) rfl _ _ _ rfl XP.1 rfl rfl rfl rfl size_sC (show 1 < 2 by decide) rfl ?_; intro w50 hS5))
  have hKB := (Below.refl (w.heap.size + 3) _).grown gr4 zb (ownR_block OM)
  have x_d6 : Box w50 (w.heap.size) ([.slice a1 ts.length c1, .slice a2 cs.length c2]) := hS5.past _ _ (by omega) (Box.keep12 (x_d5.alloc _) hKB (by omega))
  have x_c6 : Box w50 (w.heap.size + 1) (V) := hS5.past _ _ (by omega) (Box.keep12 (x_c5.alloc _) hKB (by omega))
  have x_r6 : Box w50 (w.heap.size + 2) (id0) := hS5.past _ _ (by omega) (Box.keep12 (x_r5.alloc _) hKB (by omega))
  have x_o6 : Box w50 bo [.slice pa ts.length na, .slice p4 (cs.length + 1) n4] := hS5.box
  have hB6 : Below w.heap.size w w50 := hS5.below _ _ (by omega) ((hB5.alloc hs5 _).trans (hKB.mono (by omega))); have hs6 := hB6.size
  have O_m6 := Lib.hid (ownR_storedT hS5 XP.2 own4 (by decide)); have O_x6 := Lib.hid (ownR_storedT hS5 XP.2 (ownR_apart OX OM (by decide) gr4) (by decide))
  rw [show flatR LC cs ++ flatR LC [c] = flatR LC (cs ++ [c]) from (flatR_app LC _ _).symm] at O_m6
  clear hS5 XP own4 gr4 hKB zb XO YO OX OM HIR low_o x_d5 x_c5 x_r5 x_o5 hB5 hs5 lz_d lz_c lz_r Y_o5 O_ra5 O_rb5 cc zc
  have hlen : (cs ++ [c]).length = cs.length + 1 := by simp
  have ID : IsD w50 (.agg [.slice pa ts.length na, .slice p4 (cs.length + 1) n4].toArray) ts (cs ++ [c]) := ⟨_, _, rfl, IsR.own O_x6.out rfl rfl, IsR.own O_m6.out rfl hlen.symm⟩
  go_wp2_with (refine wpList_load_box9 rfl _ _ rfl x_o6 rfl Try.underlying25 rfl (size_id12 _ _) ?_)
  refine (CK2 _ _ ID).mono ?_
  rintro e w60 ⟨rfl, hb⟩
  have O_m60 := Lib.hid (ownR_below O_m6.out hb); have O_x60 := Lib.hid (ownR_below O_x6.out hb); clear ID O_m6 O_x6
  have hB7 : Below w.heap.size w w60 := below_thru hB6 hb
  have hs7 := hB7.size
  have x_d7 : Box w60 (w.heap.size) ([.slice a1 ts.length c1, .slice a2 cs.length c2]) := Box.below x_d6 hb
  have x_c7 : Box w60 (w.heap.size + 1) (V) := Box.below x_c6 hb
  have x_r7 : Box w60 (w.heap.size + 2) (id0) := Box.below x_r6 hb
  have x_o7 : Box w60 (bo) ([.slice pa ts.length na, .slice p4 (cs.length + 1) n4]) := Box.below x_o6 hb
  clear hB6 hs6 x_d6 x_c6 x_r6 x_o6
  clear hb
  have lq := (x_r7).lt
  go_wp2_with (first | (refine wpList_load_box9 rfl _ _ rfl x_o7 rfl Try.underlying25 rfl (size_id12 _ _) ?_) | (refine wpList_store_box (cs := [.slice pa ts.length na, .slice p4 (cs.length + 1) n4]) rfl _ _ _ rfl x_r7 rfl rfl (size_id12 _ _) rfl (one_id12 _ _ _ _ _ _) ?_; intro W99 hW99))
  exact bodyPost_ret (results_box2 Try.results19 hW99.box rfl rfl Try.underlying25 rfl (size_id12 _ _)) rfl ⟨_, _, rfl, ownR_base (ownR_stored hW99 O_x60.out (by omega)) (by omega), ownR_base (ownR_stored hW99 (ownR_len O_m60.out hlen.symm) (by omega)) (by omega), hW99.below _ _ (by omega) hB7⟩

set_option maxRecDepth 100000 in
set_option maxHeartbeats 6400000 in
theorem rcmd12_f {v : Value} {ts : List Tk} {cs : List Cmd} (c : Cmd) (hl : ts.length + cs.length ≤ 180) (hq : ChkD ts cs 0) (hg : c.Ok) {i : Int} (hF : Fnd (fun u : Cmd => u.bare = c.bare) cs i) (hi : i = -1) (hno : ∀ u ∈ cs, u.bare ≠ c.bare) (hm : 100 ≤ ts.length + cs.length) (w : World) (h1 : IsD w v ts cs) : Calls Try.prog 19 #[v, .agg (ccell c).toArray] w (GivesDE [] [] 4 w) := by
  have CK := fun (W : World) (u : Value) (h : IsD W u ts cs) => rchk12_is W h (by omega) hq; have TW := fun (W : World) (u : Value) (h : IsD W u ts cs) => rtwin_is W h (by omega); have BI := fun W => build_i0 W; have SI := Lib.hid size_i0; have OI := Lib.hid one_i0
  have SV := Lib.hid (size_cmd c); have HLL := Lib.hid hl
  have IC := fun W => risc_is c (q := true) (Lib.hid ⟨fun _ => rfl, fun _ => hg⟩) W
  have HD := Lib.hid h1
  obtain ⟨v1, v2, rfl, g1, g2⟩ := id h1
  obtain ⟨a1, c1, rfl, hr1⟩ := id g1; obtain ⟨a2, c2, rfl, hr2⟩ := id g2
  have m1 := hr1.most; have r1 := hr1.room; have m2 := hr2.most; have r2 := hr2.room; have H1 := Lib.hid g1; have H2 := Lib.hid g2
  clear hr1 hr2 g1 g2 h1
  have AT := fun (W : World) (v : Value) (h : IsR LC W v cs) => rcat_is c W h hF
  subst hi; have d3 : decide ((0 : Int) ≤ (-1 : Int)) = false := rfl
  obtain ⟨ti, hin, hz0, hz1, hz2⟩ := info_parts info_cm12
  have HB := fun W => run_bsliceN (P := Try.prog) (n := 1) W 23 39 ti _ 47 Try.underlying23 hin hz0 hz1 rfl [(ccell c)] (by simp [ccell_len c]) (by decide) (by simp) #[(0, .agg (ccell c).toArray)] rfl rfl (by decide)
  rw [show [(ccell c)].flatten = (ccell c) by simp] at HB; replace HB := Lib.hid HB
  have EV : Hid ((ccell c) = flatR LC [c]) := Lib.hid (flatR_one LC c).symm
  have CK2 := fun (W : World) (u : Value) (h : IsD W u ts (cs ++ [c])) => rchk12_is W h (by simp; omega) (ChkD.put_c hq hg hno)
  rw [if_neg (by omega)] at CK2
  obtain ⟨V, hV⟩ : ∃ X, (ccell c) = X := ⟨_, rfl⟩; rw [hV] at SV IC AT HB EV ⊢; clear hV hl hq hg hF hno hm
  go_enter Try.func19, Try.ntmps19
  go_upto_region 1 with fail
  refine F_gen (F := fun W => Code.wp _ _ _ _ W) (J := fun W => Box W (w.heap.size) ([.slice a1 ts.length c1, .slice a2 cs.length c2]) ∧ Box W (w.heap.size + 1) (V) ∧ Box W (w.heap.size + 2) (id0) ∧ Below w.heap.size w W) (And.intro (Box.alloc (Box.alloc (Box.newc rfl rfl) _) _) (And.intro (Box.alloc (Box.newc rfl (by simp)) _) (And.intro (Box.newc rfl (by simp)) (by go_grown)))) ?_
  intro w0 ⟨e_d, e_c, e_r, hB0⟩
  have hs0 := hB0.size
  have x_d0 := e_d; clear e_d
  have x_c0 := e_c; clear e_c
  have x_r0 := e_r; clear e_r
  go_wp2_with (refine wpList_load_box9 rfl _ _ rfl x_d0 rfl Try.underlying25 rfl (size_id12 _ _) ?_)
  refine (CK _ _ (HD.out.below hB0)).mono ?_
  rintro e w1 ⟨rfl, hb⟩
  have hB1 : Below w.heap.size w w1 := below_thru hB0 hb
  have hs1 := hB1.size
  have x_d1 : Box w1 (w.heap.size) ([.slice a1 ts.length c1, .slice a2 cs.length c2]) := Box.below x_d0 hb
  have x_c1 : Box w1 (w.heap.size + 1) (V) := Box.below x_c0 hb
  have x_r1 : Box w1 (w.heap.size + 2) (id0) := Box.below x_r0 hb
  clear hB0 hs0 x_d0 x_c0 x_r0
  clear hb
  go_wp2_with (refine wpList_load_box9 rfl _ _ rfl x_c1 rfl Try.underlying39 rfl SV.out ?_)
  refine (IC _).mono ?_
  rintro e w2 ⟨rfl, hb⟩
  have hB2 : Below w.heap.size w w2 := below_thru hB1 hb
  have hs2 := hB2.size
  have x_d2 : Box w2 (w.heap.size) ([.slice a1 ts.length c1, .slice a2 cs.length c2]) := Box.below x_d1 hb
  have x_c2 : Box w2 (w.heap.size + 1) (V) := Box.below x_c1 hb
  have x_r2 : Box w2 (w.heap.size + 2) (id0) := Box.below x_r1 hb
  clear hB1 hs1 x_d1 x_c1 x_r1
  clear hb
  have lr := (x_r2).lt
  go_wp2_with (refine wpList_load_box9 rfl _ _ rfl x_d2 rfl Try.underlying25 rfl (size_id12 _ _) ?_)
  refine (TW _ _ (HD.out.below hB2)).mono ?_
  rintro e w3 ⟨ta, tb, rfl, oa, ob, hb⟩
  have oa := ownR_base oa (show w.heap.size + 3 ≤ _ by omega); have ob := ownR_base ob (show w.heap.size + 3 ≤ _ by omega); clear lr 
  obtain ⟨pa, na, rfl⟩ := own_slR oa; obtain ⟨pb, nb, rfl⟩ := own_slR ob
  have hB3 : Below w.heap.size w w3 := below_thru hB2 hb
  have hs3 := hB3.size
  have x_d3 : Box w3 (w.heap.size) ([.slice a1 ts.length c1, .slice a2 cs.length c2]) := Box.below x_d2 hb
  have x_c3 : Box w3 (w.heap.size + 1) (V) := Box.below x_c2 hb
  have x_r3 : Box w3 (w.heap.size + 2) (id0) := Box.below x_r2 hb
  clear hB2 hs2 x_d2 x_c2 x_r2
  clear hb
  have O_ra3 : Hid (w3.ownsRow (w.heap.size + 3) 34 36 (.slice pa ts.length na) (ts.length) (flatR LT ts)) := Lib.hid (oa)
  have O_rb3 : Hid (w3.ownsRow (w.heap.size + 3) 39 47 (.slice pb cs.length nb) (cs.length) (flatR LC cs)) := Lib.hid (ob)
  clear oa ob
  have low_o := (x_r3).lt
  have d_o_d := (x_d3).lt
  have d_o_c := (x_c3).lt
  have d_o_r := (x_r3).lt
  have d_o_0 := hs3
  go_upto_region 6 with (refine wpList_store_boxT12 (cs := [.slice pa ts.length na, .slice pb cs.length nb]) rfl _ _ _ rfl (Box.newc (l := id0) rfl rfl) rfl rfl (size_id12 _ _) rfl (one_id12 _ _ _ _ _ _) ?_; intro W3_0 hW3_0 tW3_0)
  have hN : Below w3.heap.size w3 W3_0 := (hW3_0.below _ _ (by omega) ((Below.refl _ w3).alloc (Nat.le_refl _) _))
  have x_o4 : Box W3_0 (w3.heap.size) ([.slice pa ts.length na, .slice pb cs.length nb]) := hW3_0.box
  have O_ra4 : Hid (W3_0.ownsRow (w.heap.size + 3) 34 36 (.slice pa ts.length na) (ts.length) (flatR LT ts)) := Lib.hid (ownR_below O_ra3.out hN)
  have O_rb4 : Hid (W3_0.ownsRow (w.heap.size + 3) 39 47 (.slice pb cs.length nb) (cs.length) (flatR LC cs)) := Lib.hid (ownR_below O_rb3.out hN)
  clear O_ra3 O_rb3
  have hB4 : Below w.heap.size w W3_0 := below_thru hB3 hN
  have hs4 := hB4.size
  have x_d4 : Box W3_0 (w.heap.size) ([.slice a1 ts.length c1, .slice a2 cs.length c2]) := Box.below x_d3 hN
  have x_c4 : Box W3_0 (w.heap.size + 1) (V) := Box.below x_c3 hN
  have x_r4 : Box W3_0 (w.heap.size + 2) (id0) := Box.below x_r3 hN
  clear hB3 hs3 x_d3 x_c3 x_r3
  clear hN hW3_0
  have Y_o4 : Ty W3_0 (w3.heap.size) 25 := tW3_0 _ (Ty.newc rfl); clear tW3_0
  obtain ⟨bo, hbo⟩ : ∃ b, w3.heap.size = b := ⟨_, rfl⟩; rw [hbo] at low_o x_o4 Y_o4 ⊢; clear hbo
  have cb := (x_d4).c 1 _ rfl
  have zb := (x_d4).lt
  go_wp2_with (refine wpList_load_box9 rfl _ _ rfl x_c4 rfl Try.underlying39 rfl SV.out ?_)
  refine (AT _ _ (H2.out.below hB4)).mono ?_
  rintro e w5 ⟨rfl, hb⟩
  clear cb zb
  have O_ra5 : Hid (w5.ownsRow (w.heap.size + 3) 34 36 (.slice pa ts.length na) (ts.length) (flatR LT ts)) := Lib.hid (ownR_below O_ra4.out hb)
  have O_rb5 : Hid (w5.ownsRow (w.heap.size + 3) 39 47 (.slice pb cs.length nb) (cs.length) (flatR LC cs)) := Lib.hid (ownR_below O_rb4.out hb)
  have Y_o5 : Ty w5 (bo) 25 := Ty.below Y_o4 hb
  clear O_ra4 O_rb4 Y_o4
  have hB5 : Below w.heap.size w w5 := below_thru hB4 hb
  have hs5 := hB5.size
  have x_d5 : Box w5 (w.heap.size) ([.slice a1 ts.length c1, .slice a2 cs.length c2]) := Box.below x_d4 hb
  have x_c5 : Box w5 (w.heap.size + 1) (V) := Box.below x_c4 hb
  have x_r5 : Box w5 (w.heap.size + 2) (id0) := Box.below x_r4 hb
  have x_o5 : Box w5 (bo) ([.slice pa ts.length na, .slice pb cs.length nb]) := Box.below x_o4 hb
  clear hB4 hs4 x_d4 x_c4 x_r4 x_o4
  clear hb
  have cc := (x_o5).c 1 _ rfl
  have zc := (x_o5).lt
  have lz_d := (x_d5).lt
  have lz_c := (x_c5).lt
  have lz_r := (x_r5).lt
  have HIR : IsR LC (w5.alloc (.cells V.toArray 39)) (.slice (some ⟨w5.heap.size, 0, none⟩) 1 1) [c] := IsR.ofBox (Box.newc rfl rfl) EV.out rfl (by decide)
  have OM : (w5.alloc (.cells V.toArray 39)).ownsRow (w.heap.size + 3) 39 47 (.slice pb cs.length nb) (cs.length) (flatR LC cs) := ownR_below O_rb5.out ((Below.refl _ _).alloc (Nat.le_refl _) _)
  have OX : (w5.alloc (.cells V.toArray 39)).ownsRow (w.heap.size + 3) 34 36 (.slice pa ts.length na) (ts.length) (flatR LT ts) := ownR_below O_ra5.out ((Below.refl _ _).alloc (Nat.le_refl _) _)
  have XO := Box.alloc x_o5 (.cells V.toArray 39); have YO := Ty.alloc Y_o5 (.cells V.toArray 39)
  have zb : w.heap.size + 3 ≤ (w5.alloc (.cells V.toArray 39)).heap.size := by simp; omega
  go_upto_region 12 with (first | (refine wpList_load_box9 rfl _ _ rfl x_c5 rfl Try.underlying39 rfl SV.out ?_) | (refine wpList_bsliceN rfl 23 1 _ rfl (us := #[(0, .agg V.toArray)]) (by rfl) (HB.out _) ?_) | (at_builtin; refine wpList_append_rows rfl LC _ _ 23 rfl (w.heap.size + 3) 39 ti (.agg (ccell Cmd.zero).toArray) 47 136 rfl Try.underlying23 hin hz0 hz1 hz2 rfl _ cs.length _ rfl OM _ [c] rfl HIR (by have := HLL.out; unfold maxLen; simp; omega) (by have := HLL.out; simp; omega) zb ?_; intro v40 w40 own4 gr4; obtain ⟨p4, n4, rfl⟩ := own_slR own4; have XP := Box.grownT XO YO OM (by decide) gr4) | (refine wpList_store_cell (k := 1) (ws := [.slice pa ts.length na, .slice p4 (cs.length + 1) n4]) (v := .slice p4 (cs.length + 1) n4) rfl _ _ _ rfl XP.1 rfl rfl rfl rfl size_sC (show 1 < 2 by decide) rfl ?_; intro w50 hS5))
  have hKB := (Below.refl (w.heap.size + 3) _).grown gr4 zb (ownR_block OM)
  have x_d6 : Box w50 (w.heap.size) ([.slice a1 ts.length c1, .slice a2 cs.length c2]) := hS5.past _ _ (by omega) (Box.keep12 (x_d5.alloc _) hKB (by omega))
  have x_c6 : Box w50 (w.heap.size + 1) (V) := hS5.past _ _ (by omega) (Box.keep12 (x_c5.alloc _) hKB (by omega))
  have x_r6 : Box w50 (w.heap.size + 2) (id0) := hS5.past _ _ (by omega) (Box.keep12 (x_r5.alloc _) hKB (by omega))
  have x_o6 : Box w50 bo [.slice pa ts.length na, .slice p4 (cs.length + 1) n4] := hS5.box
  have hB6 : Below w.heap.size w w50 := hS5.below _ _ (by omega) ((hB5.alloc hs5 _).trans (hKB.mono (by omega))); have hs6 := hB6.size
  have O_m6 := Lib.hid (ownR_storedT hS5 XP.2 own4 (by decide)); have O_x6 := Lib.hid (ownR_storedT hS5 XP.2 (ownR_apart OX OM (by decide) gr4) (by decide))
  rw [show flatR LC cs ++ flatR LC [c] = flatR LC (cs ++ [c]) from (flatR_app LC _ _).symm] at O_m6
  clear hS5 XP own4 gr4 hKB zb XO YO OX OM HIR low_o x_d5 x_c5 x_r5 x_o5 hB5 hs5 lz_d lz_c lz_r Y_o5 O_ra5 O_rb5 cc zc
  have hlen : (cs ++ [c]).length = cs.length + 1 := by simp
  have ID : IsD w50 (.agg [.slice pa ts.length na, .slice p4 (cs.length + 1) n4].toArray) ts (cs ++ [c]) := ⟨_, _, rfl, IsR.own O_x6.out rfl rfl, IsR.own O_m6.out rfl hlen.symm⟩
  go_wp2_with (refine wpList_load_box9 rfl _ _ rfl x_o6 rfl Try.underlying25 rfl (size_id12 _ _) ?_)
  refine (CK2 _ _ ID).mono ?_
  rintro e w60 ⟨rfl, hb⟩
  have O_m60 := Lib.hid (ownR_below O_m6.out hb); have O_x60 := Lib.hid (ownR_below O_x6.out hb); clear ID O_m6 O_x6
  have hB7 : Below w.heap.size w w60 := below_thru hB6 hb
  have hs7 := hB7.size
  have x_d7 : Box w60 (w.heap.size) ([.slice a1 ts.length c1, .slice a2 cs.length c2]) := Box.below x_d6 hb
  have x_c7 : Box w60 (w.heap.size + 1) (V) := Box.below x_c6 hb
  have x_r7 : Box w60 (w.heap.size + 2) (id0) := Box.below x_r6 hb
  have x_o7 : Box w60 (bo) ([.slice pa ts.length na, .slice p4 (cs.length + 1) n4]) := Box.below x_o6 hb
  clear hB6 hs6 x_d6 x_c6 x_r6 x_o6
  clear hb
  clear O_m60 O_x60 hlen
  have lq := (x_r7).lt
  go_wp2_with (first | (refine wpList_build9 rfl 25 _ rfl (us := #[]) (by rfl) (BI _) ?_) | (refine wpList_store_box (cs := id0) rfl _ _ _ rfl x_r7 rfl rfl SI.out rfl OI.out ?_; intro W99 hW99))
  exact bodyPost_ret (results_box2 Try.results19 hW99.box rfl rfl Try.underlying25 rfl SI.out) rfl ⟨_, _, rfl, ownR_none, ownR_none, hW99.below _ _ (by omega) hB7⟩

theorem rcmd12_is {v : Value} {ts : List Tk} {cs : List Cmd} (c : Cmd) (hl : ts.length + cs.length ≤ 180) {us : List Tk} {ds : List Cmd} {q : Int} (h : PutC ts cs c us ds q) (w : World) (h1 : IsD w v ts cs) : Calls Try.prog 19 #[v, .agg (ccell c).toArray] w (GivesDE us ds q w) := by
  rcases h with ⟨hn, hq, rfl, rfl⟩ | ⟨hq, r, hx, hr⟩
  · exact rcmd12_a c hl hn hq w h1
  · obtain ⟨i, hF⟩ := Fnd.ex (fun u : Cmd => u.bare = c.bare) cs
    have hd := hq.dst.2
    rcases hx with ⟨rfl, hg, rfl⟩ | ⟨hg, ⟨rfl, ⟨u, hu, hb, hne⟩, rfl⟩ | ⟨rfl, hm, rfl⟩ | ⟨hno, ⟨rfl, h100, rfl⟩ | ⟨rfl, h100, rfl⟩⟩⟩
    · rcases hr with ⟨_, rfl, rfl⟩ | ⟨h, _⟩
      · exact rcmd12_b c hl hq hg w h1
      · cases h
    · rcases hr with ⟨_, rfl, rfl⟩ | ⟨h, _⟩
      · obtain ⟨n, y, e, hy, py⟩ := hF.pos (Int.not_lt.1 fun h => (hF.neg_iff.1 h) u hu hb)
        refine rcmd12_c c hl hq hg hF e hy (fun e2 => hne ?_) w h1
        subst e2
        exact hd.one hu (List.mem_of_getElem? hy) hb
      · cases h
    · rcases hr with ⟨h, _⟩ | ⟨h, rfl⟩
      · cases h
      · cases h
        obtain ⟨n, e, hy⟩ := (fnd_mem hd hF).1 hm
        exact rcmd12_d c hl hq hg hF e hy rfl w h1
    · rcases hr with ⟨_, rfl, rfl⟩ | ⟨h, _⟩
      · exact rcmd12_f c hl hq hg hF (hF.none_of hno) hno h100 w h1
      · cases h
    · rcases hr with ⟨h, _⟩ | ⟨h, rfl⟩
      · cases h
      · cases h
        exact rcmd12_e c hl hq hg hF (hF.none_of hno) hno h100 w h1

end Go.Proofs.Ytpccahdbienjeaa
