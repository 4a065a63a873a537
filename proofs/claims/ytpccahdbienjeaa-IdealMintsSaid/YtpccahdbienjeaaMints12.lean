/-
  IdealMints, walked.
-/
import Derived.Test.YtpccahdbienjeaaIdLaw
import Derived.Test.YtpccahdbienjeaaRIdG
namespace Go.Proofs.Ytpccahdbienjeaa
open Go.RowKit

theorem PutX.len12 {α β : Type} {f : α → β} {good : Prop} {l : List α} {m : Nat} {x : α} {r : Option (List α)} {q : Int} {u : List α} (h : PutX f good l m x r q) (e : r = some u) : u.length ≤ l.length + 1 := by
  rcases h with ⟨_, _, h⟩ | ⟨_, ⟨_, _, h⟩ | ⟨_, _, h⟩ | ⟨_, ⟨_, _, h⟩ | ⟨_, _, h⟩⟩⟩
  all_goals first | (rw [h] at e; cases e; done) | (rw [h] at e; injection e with e; subst e; simp)
theorem PutT.len12 {ts : List Tk} {cs : List Cmd} {t : Tk} {us : List Tk} {ds : List Cmd} {q : Int} (h : PutT ts cs t us ds q) : us.length ≤ ts.length + 1 := by
  rcases h with ⟨_, _, h, _⟩ | ⟨_, r, hp, ⟨_, h, _⟩ | ⟨h, _⟩⟩
  · rw [h]; exact Nat.zero_le _
  · rw [h]; exact Nat.zero_le _
  · exact hp.len12 h
theorem flatR_set {α : Type} {L : Lay α} : ∀ {ls : List α} {k j : Nat} {x y : α} {v : Value}, ls[k]? = some x → L.f y = (L.f x).set j v → j < L.s → (flatR L ls).set (k * L.s + j) v = flatR L (ls.set k y)
  | [], _, _, _, _, _, h, _, _ => by simp at h
  | z :: ls, 0, j, x, y, v, h, hy, hj => by
    have e : z = x := by simpa using h
    subst e
    show (L.f z ++ flatR L ls).set (0 * L.s + j) v = L.f y ++ flatR L ls
    rw [Nat.zero_mul, Nat.zero_add, List.set_append_left _ _ (by rw [L.len]; exact hj), hy]
  | z :: ls, k + 1, j, x, y, v, h, hy, hj => by
    have h2 : ls[k]? = some x := by simpa using h
    show (L.f z ++ flatR L ls).set ((k + 1) * L.s + j) v = L.f z ++ flatR L (ls.set k y)
    have e : (k + 1) * L.s + j = L.s + (k * L.s + j) := by rw [Nat.succ_mul]; omega
    rw [e, List.set_append_right _ _ (by rw [L.len]; omega), L.len, Nat.add_sub_cancel_left, flatR_set h2 hy hj]
def Tk.usr (t : Tk) (n : Int) (h : 0 ≤ n ∧ n ≤ 4294967295) : Tk := ⟨⟨t.k.t, n, t.k.e, t.k.x, t.k.ht, h, t.k.he, t.k.hx⟩, t.g, t.hg, t.hgb⟩

set_option maxRecDepth 100000 in
set_option maxHeartbeats 6400000 in
theorem mints12_a {v : Value} {ts : List Tk} {cs : List Cmd} (t : Tk) (c : Cmd) (hl : ts.length + cs.length ≤ 1000000000000000) (hg : GrtD (ts.length + cs.length)) (w : World) (h1 : IsD w v ts cs) : Calls Try.prog 4 #[v, .agg t.v.toArray, .agg (ccell c).toArray] w fun e w' => e = .returned (.bool true) ∧ Below w.heap.size w w' := by
  have GT := fun (W : World) (u : Value) (h : IsD W u ts cs) => rgreat_is (b := true) W h hl (⟨fun _ => hg, fun _ => rfl⟩)
  have HD := Lib.hid h1
  obtain ⟨v1, v2, rfl, g1, g2⟩ := id h1
  have SD := Lib.hid (size_id12 v1 v2)
  clear g1 g2 h1
  have SV := Lib.hid (size_tk t); have SC := Lib.hid (size_cmd c)
  obtain ⟨V, hV⟩ : ∃ X, t.v = X := ⟨_, rfl⟩
  rw [hV] at SV ⊢
  clear hV
  obtain ⟨CV, hCV⟩ : ∃ X, ccell c = X := ⟨_, rfl⟩
  rw [hCV] at SC ⊢
  clear hCV
  clear hl hg
  go_enter Try.func4, Try.ntmps4
  go_upto_region 1 with fail
  refine F_gen (F := fun W => Code.wp _ _ _ _ W) (J := fun W => Box W (w.heap.size) ([v1, v2]) ∧ Box W (w.heap.size + 1) (V) ∧ Box W (w.heap.size + 2) (CV) ∧ Below w.heap.size w W) (And.intro (Box.alloc (Box.alloc (Box.newc rfl rfl) _) _) (And.intro (Box.alloc (Box.newc rfl (by simp)) _) (And.intro (Box.newc rfl (by simp)) (by go_grown)))) ?_
  intro w0 ⟨e_d, e_t, e_c, hB0⟩
  have hs0 := hB0.size
  have x_d0 := e_d; clear e_d
  have x_t0 := e_t; clear e_t
  have x_c0 := e_c; clear e_c
  go_wp2_with (refine wpList_load_box9 rfl _ _ rfl x_d0 rfl Try.underlying25 rfl SD.out ?_)
  refine (GT _ _ (HD.out.below hB0)).mono ?_
  rintro e w1 ⟨rfl, hb⟩
  have hB1 : Below w.heap.size w w1 := below_thru hB0 hb
  have hs1 := hB1.size
  have x_d1 : Box w1 (w.heap.size) ([v1, v2]) := Box.below x_d0 hb
  have x_t1 : Box w1 (w.heap.size + 1) (V) := Box.below x_t0 hb
  have x_c1 : Box w1 (w.heap.size + 2) (CV) := Box.below x_c0 hb
  clear hB0 hs0 x_d0 x_t0 x_c0
  clear hb
  go_wp2_with fail
  go_returns
  exact ⟨rfl, hB1⟩

set_option maxRecDepth 100000 in
set_option maxHeartbeats 6400000 in
theorem mints12_b {v : Value} {ts : List Tk} {cs : List Cmd} (t : Tk) (c : Cmd) (hl : ts.length + cs.length ≤ 1000000000000000) (hg : ¬ GrtD (ts.length + cs.length)) (w : World) (h1 : IsD w v ts cs) : Calls Try.prog 4 #[v, .agg t.v.toArray, .agg (ccell c).toArray] w fun e w' => e = .returned (.bool true) ∧ Below w.heap.size w w' := by
  have GT := fun (W : World) (u : Value) (h : IsD W u ts cs) => rgreat_is (b := false) W h hl (⟨fun h => (Bool.false_ne_true h).elim, fun h => absurd h hg⟩)
  have h180 := not_grt hg
  obtain ⟨us, ds, q, hp⟩ := PutT.ex ts cs t; obtain ⟨us2, ds2, q2, hp2⟩ := PutC.ex ts cs c; obtain ⟨qk, hqk⟩ := ChkD.ex ts cs
  have TW := fun (W : World) (u : Value) (h : IsD W u ts cs) => rtwin_is W h (by omega); have PT := fun (W : World) (u : Value) (h : IsD W u ts cs) => ptok_is t h180 hp W h; have RT := fun (W : World) (u : Value) (h : IsD W u ts cs) => rtok12_is t h180 hp W h; have PC := fun (W : World) (u : Value) (h : IsD W u ts cs) => pcmd_is c h180 hp2 W h; have RC := fun (W : World) (u : Value) (h : IsD W u ts cs) => rcmd12_is c h180 hp2 W h
  have CP := fun (W : World) (u : Value) (h : IsD W u ts cs) => pchk_is W h h180 hqk; have CR := fun (W : World) (u : Value) (h : IsD W u ts cs) => rchk12_is W h (by omega) hqk; have NW := fun W => pnew_is W; have BI := fun W => build_i0 W
  have SM := fun (W : World) (u v : Value) (ms : List Tk) (ns : List Cmd) (h1 : IsD W u ms ns) (h2 : IsD W v ms ns) => rsame12_is (b := true) W h1 h2 ⟨fun _ => ⟨rfl, rfl⟩, fun _ => rfl⟩
  have b1 : (q == q) = true := beq_self_eq_true q; have b2 : (q2 == q2) = true := beq_self_eq_true q2; have b3 : (qk == qk) = true := beq_self_eq_true qk
  have HD := Lib.hid h1
  obtain ⟨v1, v2, rfl, g1, g2⟩ := id h1
  have SD := Lib.hid (size_id12 v1 v2)
  clear g1 g2 h1
  have SV := Lib.hid (size_tk t); have SC := Lib.hid (size_cmd c)
  obtain ⟨V, hV⟩ : ∃ X, t.v = X := ⟨_, rfl⟩
  rw [hV] at SV PT RT ⊢
  clear hV
  obtain ⟨CV, hCV⟩ : ∃ X, ccell c = X := ⟨_, rfl⟩
  rw [hCV] at SC PC RC ⊢
  clear hCV
  have hul := PutT.len12 hp; have hul2 : us.length ≤ 1000 := by omega
  clear hl hg hp hp2 hqk h180 hul
  go_enter Try.func4, Try.ntmps4
  go_upto_region 1 with fail
  refine F_gen (F := fun W => Code.wp _ _ _ _ W) (J := fun W => Box W (w.heap.size) ([v1, v2]) ∧ Box W (w.heap.size + 1) (V) ∧ Box W (w.heap.size + 2) (CV) ∧ Below w.heap.size w W) (And.intro (Box.alloc (Box.alloc (Box.newc rfl rfl) _) _) (And.intro (Box.alloc (Box.newc rfl (by simp)) _) (And.intro (Box.newc rfl (by simp)) (by go_grown)))) ?_
  intro w0 ⟨e_d, e_t, e_c, hB0⟩
  have hs0 := hB0.size
  have x_d0 := e_d; clear e_d
  have x_t0 := e_t; clear e_t
  have x_c0 := e_c; clear e_c
  go_wp2_with (refine wpList_load_box9 rfl _ _ rfl x_d0 rfl Try.underlying25 rfl SD.out ?_)
  refine (GT _ _ (HD.out.below hB0)).mono ?_
  rintro e w1 ⟨rfl, hb⟩
  have hB1 : Below w.heap.size w w1 := below_thru hB0 hb
  have hs1 := hB1.size
  have x_d1 : Box w1 (w.heap.size) ([v1, v2]) := Box.below x_d0 hb
  have x_t1 : Box w1 (w.heap.size + 1) (V) := Box.below x_t0 hb
  have x_c1 : Box w1 (w.heap.size + 2) (CV) := Box.below x_c0 hb
  clear hB0 hs0 x_d0 x_t0 x_c0
  clear hb
  go_wp2_with (refine wpList_load_box9 rfl _ _ rfl x_d1 rfl Try.underlying25 rfl SD.out ?_)
  refine (TW _ _ (HD.out.below hB1)).mono ?_
  rintro e w2 ⟨x1o, x2o, rfl, o1o, o2o, hb⟩
  have Io : Hid (IsD w2 (.agg #[x1o, x2o]) ts cs) := Lib.hid ⟨_, _, rfl, IsR.own o1o rfl rfl, IsR.own o2o rfl rfl⟩
  obtain ⟨p1o, n1o, rfl⟩ := own_slR o1o; obtain ⟨p2o, n2o, rfl⟩ := own_slR o2o
  have hB2 : Below w.heap.size w w2 := below_thru hB1 hb
  have hs2 := hB2.size
  have x_d2 : Box w2 (w.heap.size) ([v1, v2]) := Box.below x_d1 hb
  have x_t2 : Box w2 (w.heap.size + 1) (V) := Box.below x_t1 hb
  have x_c2 : Box w2 (w.heap.size + 2) (CV) := Box.below x_c1 hb
  clear hB1 hs1 x_d1 x_t1 x_c1
  clear hb
  clear o1o o2o
  have K_w2_2 : Below w2.heap.size w2 w2 := Below.refl _ _
  have d_o_d := (x_d2).lt
  have d_o_t := (x_t2).lt
  have d_o_c := (x_c2).lt
  have d_o_0 := hs2
  go_upto_region 4 with (refine wpList_store_box (cs := [.slice p1o ts.length n1o, .slice p2o cs.length n2o]) rfl _ _ _ rfl (Box.newc (l := id0) rfl rfl) rfl rfl (size_id12 _ _) rfl (one_id12 _ _ _ _ _ _) ?_; intro W2_0 hW2_0)
  have hN : Below w2.heap.size w2 W2_0 := (hW2_0.below _ _ (by omega) ((Below.refl _ w2).alloc (Nat.le_refl _) _))
  have x_o3 : Box W2_0 (w2.heap.size) ([.slice p1o ts.length n1o, .slice p2o cs.length n2o]) := hW2_0.box
  have K_w2_3 : Below w2.heap.size w2 W2_0 := below_thru K_w2_2 hN
  clear K_w2_2
  have hB3 : Below w.heap.size w W2_0 := below_thru hB2 hN
  have hs3 := hB3.size
  have x_d3 : Box W2_0 (w.heap.size) ([v1, v2]) := Box.below x_d2 hN
  have x_t3 : Box W2_0 (w.heap.size + 1) (V) := Box.below x_t2 hN
  have x_c3 : Box W2_0 (w.heap.size + 2) (CV) := Box.below x_c2 hN
  clear hB2 hs2 x_d2 x_t2 x_c2
  clear hN hW2_0
  go_wp2_with (first
    | (refine wpList_load_box9 rfl _ _ rfl x_o3 rfl Try.underlying25 rfl (size_id12 _ _) ?_)
    | (refine wpList_load_box9 rfl _ _ rfl x_t3 rfl Try.underlying34 rfl SV.out ?_))
  refine (PT _ _ (Io.out.below K_w2_3)).mono ?_
  rintro e w4 ⟨x1a, x2a, rfl, o1a, o2a, hb⟩
  have Ia : Hid (IsD w4 (.agg #[x1a, x2a]) us ds) := Lib.hid ⟨_, _, rfl, IsR.own o1a rfl rfl, IsR.own o2a rfl rfl⟩
  obtain ⟨p1a, n1a, rfl⟩ := own_slR o1a; obtain ⟨p2a, n2a, rfl⟩ := own_slR o2a
  have low_a := hB3; have lq_a := Below.size hb
  have lo_d := (x_d3).lt
  have lo_t := (x_t3).lt
  have lo_c := (x_c3).lt
  have lo_o := (x_o3).lt
  have lk_w2 := Below.size K_w2_3
  have K_w2_4 : Below w2.heap.size w2 w4 := below_thru K_w2_3 hb
  clear K_w2_3
  have hB4 : Below w.heap.size w w4 := below_thru hB3 hb
  have hs4 := hB4.size
  have x_d4 : Box w4 (w.heap.size) ([v1, v2]) := Box.below x_d3 hb
  have x_t4 : Box w4 (w.heap.size + 1) (V) := Box.below x_t3 hb
  have x_c4 : Box w4 (w.heap.size + 2) (CV) := Box.below x_c3 hb
  have x_o4 : Box w4 (w2.heap.size) ([.slice p1o ts.length n1o, .slice p2o cs.length n2o]) := Box.below x_o3 hb
  clear hB3 hs3 x_d3 x_t3 x_c3 x_o3
  clear hb
  have O_ra4 : Hid (w4.ownsRow (W2_0.heap.size) 34 36 (.slice p1a (us.length) n1a) (us.length) (flatR LT us)) := Lib.hid (o1a)
  clear o1a o2a
  have K_w4_4 : Below w4.heap.size w4 w4 := Below.refl _ _
  have d_a_d := (x_d4).lt
  have d_a_t := (x_t4).lt
  have d_a_c := (x_c4).lt
  have d_a_o := (x_o4).lt
  have d_a_0 := hs4
  go_upto_region 5 with (refine wpList_store_boxT12 (cs := [.slice p1a us.length n1a, .slice p2a ds.length n2a]) rfl _ _ _ rfl (Box.newc (l := id0) rfl rfl) rfl rfl (size_id12 _ _) rfl (one_id12 _ _ _ _ _ _) ?_; intro W4_0 hW4_0 tW4_0)
  have hN : Below w4.heap.size w4 W4_0 := (hW4_0.below _ _ (by omega) ((Below.refl _ w4).alloc (Nat.le_refl _) _))
  have x_a5 : Box W4_0 (w4.heap.size) ([.slice p1a us.length n1a, .slice p2a ds.length n2a]) := hW4_0.box
  have O_ra5 : Hid (W4_0.ownsRow (W2_0.heap.size) 34 36 (.slice p1a (us.length) n1a) (us.length) (flatR LT us)) := Lib.hid (ownR_below O_ra4.out hN)
  have K_w2_5 : Below w2.heap.size w2 W4_0 := below_thru K_w2_4 hN
  have K_w4_5 : Below w4.heap.size w4 W4_0 := below_thru K_w4_4 hN
  clear O_ra4 K_w2_4 K_w4_4
  have hB5 : Below w.heap.size w W4_0 := below_thru hB4 hN
  have hs5 := hB5.size
  have x_d5 : Box W4_0 (w.heap.size) ([v1, v2]) := Box.below x_d4 hN
  have x_t5 : Box W4_0 (w.heap.size + 1) (V) := Box.below x_t4 hN
  have x_c5 : Box W4_0 (w.heap.size + 2) (CV) := Box.below x_c4 hN
  have x_o5 : Box W4_0 (w2.heap.size) ([.slice p1o ts.length n1o, .slice p2o cs.length n2o]) := Box.below x_o4 hN
  clear hB4 hs4 x_d4 x_t4 x_c4 x_o4
  clear hN hW4_0
  have Y_a5 : Ty W4_0 (w4.heap.size) 25 := tW4_0 _ (Ty.newc rfl); clear tW4_0
  go_wp2_with (first
    | (refine wpList_load_box9 rfl _ _ rfl x_d5 rfl Try.underlying25 rfl SD.out ?_)
    | (refine wpList_load_box9 rfl _ _ rfl x_t5 rfl Try.underlying34 rfl SV.out ?_))
  refine (RT _ _ (HD.out.below hB5)).mono ?_
  rintro e w6 ⟨x1b, x2b, rfl, o1b, o2b, hb⟩
  have Ib : Hid (IsD w6 (.agg #[x1b, x2b]) us ds) := Lib.hid ⟨_, _, rfl, IsR.own o1b rfl rfl, IsR.own o2b rfl rfl⟩
  obtain ⟨p1b, n1b, rfl⟩ := own_slR o1b; obtain ⟨p2b, n2b, rfl⟩ := own_slR o2b
  have O_ra6 : Hid (w6.ownsRow (W2_0.heap.size) 34 36 (.slice p1a (us.length) n1a) (us.length) (flatR LT us)) := Lib.hid (ownR_below O_ra5.out hb)
  have Y_a6 : Ty w6 (w4.heap.size) 25 := Ty.below Y_a5 hb
  have K_w2_6 : Below w2.heap.size w2 w6 := below_thru K_w2_5 hb
  have K_w4_6 : Below w4.heap.size w4 w6 := below_thru K_w4_5 hb
  clear O_ra5 Y_a5 K_w2_5 K_w4_5
  have hB6 : Below w.heap.size w w6 := below_thru hB5 hb
  have hs6 := hB6.size
  have x_d6 : Box w6 (w.heap.size) ([v1, v2]) := Box.below x_d5 hb
  have x_t6 : Box w6 (w.heap.size + 1) (V) := Box.below x_t5 hb
  have x_c6 : Box w6 (w.heap.size + 2) (CV) := Box.below x_c5 hb
  have x_o6 : Box w6 (w2.heap.size) ([.slice p1o ts.length n1o, .slice p2o cs.length n2o]) := Box.below x_o5 hb
  have x_a6 : Box w6 (w4.heap.size) ([.slice p1a us.length n1a, .slice p2a ds.length n2a]) := Box.below x_a5 hb
  clear hB5 hs5 x_d5 x_t5 x_c5 x_o5 x_a5
  clear hb
  clear o1b o2b
  have K_w6_6 : Below w6.heap.size w6 w6 := Below.refl _ _
  have d_b_d := (x_d6).lt
  have d_b_t := (x_t6).lt
  have d_b_c := (x_c6).lt
  have d_b_o := (x_o6).lt
  have d_b_a := (x_a6).lt
  have d_b_0 := hs6
  go_upto_region 6 with (refine wpList_store_box (cs := [.slice p1b us.length n1b, .slice p2b ds.length n2b]) rfl _ _ _ rfl (Box.newc (l := id0) rfl rfl) rfl rfl (size_id12 _ _) rfl (one_id12 _ _ _ _ _ _) ?_; intro W6_0 hW6_0)
  have hN : Below w6.heap.size w6 W6_0 := (hW6_0.below _ _ (by omega) ((Below.refl _ w6).alloc (Nat.le_refl _) _))
  have x_b7 : Box W6_0 (w6.heap.size) ([.slice p1b us.length n1b, .slice p2b ds.length n2b]) := hW6_0.box
  have O_ra7 : Hid (W6_0.ownsRow (W2_0.heap.size) 34 36 (.slice p1a (us.length) n1a) (us.length) (flatR LT us)) := Lib.hid (ownR_below O_ra6.out hN)
  have Y_a7 : Ty W6_0 (w4.heap.size) 25 := Ty.below Y_a6 hN
  have K_w2_7 : Below w2.heap.size w2 W6_0 := below_thru K_w2_6 hN
  have K_w4_7 : Below w4.heap.size w4 W6_0 := below_thru K_w4_6 hN
  have K_w6_7 : Below w6.heap.size w6 W6_0 := below_thru K_w6_6 hN
  clear O_ra6 Y_a6 K_w2_6 K_w4_6 K_w6_6
  have hB7 : Below w.heap.size w W6_0 := below_thru hB6 hN
  have hs7 := hB7.size
  have x_d7 : Box W6_0 (w.heap.size) ([v1, v2]) := Box.below x_d6 hN
  have x_t7 : Box W6_0 (w.heap.size + 1) (V) := Box.below x_t6 hN
  have x_c7 : Box W6_0 (w.heap.size + 2) (CV) := Box.below x_c6 hN
  have x_o7 : Box W6_0 (w2.heap.size) ([.slice p1o ts.length n1o, .slice p2o cs.length n2o]) := Box.below x_o6 hN
  have x_a7 : Box W6_0 (w4.heap.size) ([.slice p1a us.length n1a, .slice p2a ds.length n2a]) := Box.below x_a6 hN
  clear hB6 hs6 x_d6 x_t6 x_c6 x_o6 x_a6
  clear hN hW6_0
  clear x_t7
  go_wp2_with (first
    | (refine wpList_load_box9 rfl _ _ rfl x_o7 rfl Try.underlying25 rfl (size_id12 _ _) ?_)
    | (refine wpList_load_box9 rfl _ _ rfl x_c7 rfl Try.underlying39 rfl SC.out ?_))
  refine (PC _ _ (Io.out.below K_w2_7)).mono ?_
  rintro e w8 ⟨x1g, x2g, rfl, o1g, o2g, hb⟩
  have Ig : Hid (IsD w8 (.agg #[x1g, x2g]) us2 ds2) := Lib.hid ⟨_, _, rfl, IsR.own o1g rfl rfl, IsR.own o2g rfl rfl⟩
  obtain ⟨p1g, n1g, rfl⟩ := own_slR o1g; obtain ⟨p2g, n2g, rfl⟩ := own_slR o2g
  have O_ra8 : Hid (w8.ownsRow (W2_0.heap.size) 34 36 (.slice p1a (us.length) n1a) (us.length) (flatR LT us)) := Lib.hid (ownR_below O_ra7.out hb)
  have Y_a8 : Ty w8 (w4.heap.size) 25 := Ty.below Y_a7 hb
  have K_w2_8 : Below w2.heap.size w2 w8 := below_thru K_w2_7 hb
  have K_w4_8 : Below w4.heap.size w4 w8 := below_thru K_w4_7 hb
  have K_w6_8 : Below w6.heap.size w6 w8 := below_thru K_w6_7 hb
  clear O_ra7 Y_a7 K_w2_7 K_w4_7 K_w6_7
  have hB8 : Below w.heap.size w w8 := below_thru hB7 hb
  have hs8 := hB8.size
  have x_d8 : Box w8 (w.heap.size) ([v1, v2]) := Box.below x_d7 hb
  have x_c8 : Box w8 (w.heap.size + 2) (CV) := Box.below x_c7 hb
  have x_o8 : Box w8 (w2.heap.size) ([.slice p1o ts.length n1o, .slice p2o cs.length n2o]) := Box.below x_o7 hb
  have x_a8 : Box w8 (w4.heap.size) ([.slice p1a us.length n1a, .slice p2a ds.length n2a]) := Box.below x_a7 hb
  have x_b8 : Box w8 (w6.heap.size) ([.slice p1b us.length n1b, .slice p2b ds.length n2b]) := Box.below x_b7 hb
  clear hB7 hs7 x_d7 x_c7 x_o7 x_a7 x_b7
  clear hb
  clear o1g o2g
  have K_w8_8 : Below w8.heap.size w8 w8 := Below.refl _ _
  have d_g_d := (x_d8).lt
  have d_g_c := (x_c8).lt
  have d_g_o := (x_o8).lt
  have d_g_a := (x_a8).lt
  have d_g_b := (x_b8).lt
  have d_g_0 := hs8
  go_upto_region 7 with (refine wpList_store_box (cs := [.slice p1g us2.length n1g, .slice p2g ds2.length n2g]) rfl _ _ _ rfl (Box.newc (l := id0) rfl rfl) rfl rfl (size_id12 _ _) rfl (one_id12 _ _ _ _ _ _) ?_; intro W8_0 hW8_0)
  have hN : Below w8.heap.size w8 W8_0 := (hW8_0.below _ _ (by omega) ((Below.refl _ w8).alloc (Nat.le_refl _) _))
  have x_g9 : Box W8_0 (w8.heap.size) ([.slice p1g us2.length n1g, .slice p2g ds2.length n2g]) := hW8_0.box
  have O_ra9 : Hid (W8_0.ownsRow (W2_0.heap.size) 34 36 (.slice p1a (us.length) n1a) (us.length) (flatR LT us)) := Lib.hid (ownR_below O_ra8.out hN)
  have Y_a9 : Ty W8_0 (w4.heap.size) 25 := Ty.below Y_a8 hN
  have K_w2_9 : Below w2.heap.size w2 W8_0 := below_thru K_w2_8 hN
  have K_w4_9 : Below w4.heap.size w4 W8_0 := below_thru K_w4_8 hN
  have K_w6_9 : Below w6.heap.size w6 W8_0 := below_thru K_w6_8 hN
  have K_w8_9 : Below w8.heap.size w8 W8_0 := below_thru K_w8_8 hN
  clear O_ra8 Y_a8 K_w2_8 K_w4_8 K_w6_8 K_w8_8
  have hB9 : Below w.heap.size w W8_0 := below_thru hB8 hN
  have hs9 := hB9.size
  have x_d9 : Box W8_0 (w.heap.size) ([v1, v2]) := Box.below x_d8 hN
  have x_c9 : Box W8_0 (w.heap.size + 2) (CV) := Box.below x_c8 hN
  have x_o9 : Box W8_0 (w2.heap.size) ([.slice p1o ts.length n1o, .slice p2o cs.length n2o]) := Box.below x_o8 hN
  have x_a9 : Box W8_0 (w4.heap.size) ([.slice p1a us.length n1a, .slice p2a ds.length n2a]) := Box.below x_a8 hN
  have x_b9 : Box W8_0 (w6.heap.size) ([.slice p1b us.length n1b, .slice p2b ds.length n2b]) := Box.below x_b8 hN
  clear hB8 hs8 x_d8 x_c8 x_o8 x_a8 x_b8
  clear hN hW8_0
  go_wp2_with (first
    | (refine wpList_load_box9 rfl _ _ rfl x_d9 rfl Try.underlying25 rfl SD.out ?_)
    | (refine wpList_load_box9 rfl _ _ rfl x_c9 rfl Try.underlying39 rfl SC.out ?_))
  refine (RC _ _ (HD.out.below hB9)).mono ?_
  rintro e w10 ⟨x1h, x2h, rfl, o1h, o2h, hb⟩
  have Ih : Hid (IsD w10 (.agg #[x1h, x2h]) us2 ds2) := Lib.hid ⟨_, _, rfl, IsR.own o1h rfl rfl, IsR.own o2h rfl rfl⟩
  obtain ⟨p1h, n1h, rfl⟩ := own_slR o1h; obtain ⟨p2h, n2h, rfl⟩ := own_slR o2h
  have O_ra10 : Hid (w10.ownsRow (W2_0.heap.size) 34 36 (.slice p1a (us.length) n1a) (us.length) (flatR LT us)) := Lib.hid (ownR_below O_ra9.out hb)
  have Y_a10 : Ty w10 (w4.heap.size) 25 := Ty.below Y_a9 hb
  have K_w2_10 : Below w2.heap.size w2 w10 := below_thru K_w2_9 hb
  have K_w4_10 : Below w4.heap.size w4 w10 := below_thru K_w4_9 hb
  have K_w6_10 : Below w6.heap.size w6 w10 := below_thru K_w6_9 hb
  have K_w8_10 : Below w8.heap.size w8 w10 := below_thru K_w8_9 hb
  clear O_ra9 Y_a9 K_w2_9 K_w4_9 K_w6_9 K_w8_9
  have hB10 : Below w.heap.size w w10 := below_thru hB9 hb
  have hs10 := hB10.size
  have x_d10 : Box w10 (w.heap.size) ([v1, v2]) := Box.below x_d9 hb
  have x_c10 : Box w10 (w.heap.size + 2) (CV) := Box.below x_c9 hb
  have x_o10 : Box w10 (w2.heap.size) ([.slice p1o ts.length n1o, .slice p2o cs.length n2o]) := Box.below x_o9 hb
  have x_a10 : Box w10 (w4.heap.size) ([.slice p1a us.length n1a, .slice p2a ds.length n2a]) := Box.below x_a9 hb
  have x_b10 : Box w10 (w6.heap.size) ([.slice p1b us.length n1b, .slice p2b ds.length n2b]) := Box.below x_b9 hb
  have x_g10 : Box w10 (w8.heap.size) ([.slice p1g us2.length n1g, .slice p2g ds2.length n2g]) := Box.below x_g9 hb
  clear hB9 hs9 x_d9 x_c9 x_o9 x_a9 x_b9 x_g9
  clear hb
  clear o1h o2h
  have K_w10_10 : Below w10.heap.size w10 w10 := Below.refl _ _
  have d_h_d := (x_d10).lt
  have d_h_c := (x_c10).lt
  have d_h_o := (x_o10).lt
  have d_h_a := (x_a10).lt
  have d_h_b := (x_b10).lt
  have d_h_g := (x_g10).lt
  have d_h_0 := hs10
  go_upto_region 8 with (refine wpList_store_box (cs := [.slice p1h us2.length n1h, .slice p2h ds2.length n2h]) rfl _ _ _ rfl (Box.newc (l := id0) rfl rfl) rfl rfl (size_id12 _ _) rfl (one_id12 _ _ _ _ _ _) ?_; intro W10_0 hW10_0)
  have hN : Below w10.heap.size w10 W10_0 := (hW10_0.below _ _ (by omega) ((Below.refl _ w10).alloc (Nat.le_refl _) _))
  have x_h11 : Box W10_0 (w10.heap.size) ([.slice p1h us2.length n1h, .slice p2h ds2.length n2h]) := hW10_0.box
  have O_ra11 : Hid (W10_0.ownsRow (W2_0.heap.size) 34 36 (.slice p1a (us.length) n1a) (us.length) (flatR LT us)) := Lib.hid (ownR_below O_ra10.out hN)
  have Y_a11 : Ty W10_0 (w4.heap.size) 25 := Ty.below Y_a10 hN
  have K_w2_11 : Below w2.heap.size w2 W10_0 := below_thru K_w2_10 hN
  have K_w4_11 : Below w4.heap.size w4 W10_0 := below_thru K_w4_10 hN
  have K_w6_11 : Below w6.heap.size w6 W10_0 := below_thru K_w6_10 hN
  have K_w8_11 : Below w8.heap.size w8 W10_0 := below_thru K_w8_10 hN
  have K_w10_11 : Below w10.heap.size w10 W10_0 := below_thru K_w10_10 hN
  clear O_ra10 Y_a10 K_w2_10 K_w4_10 K_w6_10 K_w8_10 K_w10_10
  have hB11 : Below w.heap.size w W10_0 := below_thru hB10 hN
  have hs11 := hB11.size
  have x_d11 : Box W10_0 (w.heap.size) ([v1, v2]) := Box.below x_d10 hN
  have x_c11 : Box W10_0 (w.heap.size + 2) (CV) := Box.below x_c10 hN
  have x_o11 : Box W10_0 (w2.heap.size) ([.slice p1o ts.length n1o, .slice p2o cs.length n2o]) := Box.below x_o10 hN
  have x_a11 : Box W10_0 (w4.heap.size) ([.slice p1a us.length n1a, .slice p2a ds.length n2a]) := Box.below x_a10 hN
  have x_b11 : Box W10_0 (w6.heap.size) ([.slice p1b us.length n1b, .slice p2b ds.length n2b]) := Box.below x_b10 hN
  have x_g11 : Box W10_0 (w8.heap.size) ([.slice p1g us2.length n1g, .slice p2g ds2.length n2g]) := Box.below x_g10 hN
  clear hB10 hs10 x_d10 x_c10 x_o10 x_a10 x_b10 x_g10
  clear hN hW10_0
  clear x_c11
  go_wp2_with (first
    | (refine wpList_load_box9 rfl _ _ rfl x_o11 rfl Try.underlying25 rfl (size_id12 _ _) ?_)
    | (refine wpList_load_box9 rfl _ _ rfl x_d11 rfl Try.underlying25 rfl SD.out ?_))
  refine (SM _ _ _ _ _ (Io.out.below K_w2_11) (HD.out.below hB11)).mono ?_
  rintro e w12 ⟨rfl, hb⟩
  have O_ra12 : Hid (w12.ownsRow (W2_0.heap.size) 34 36 (.slice p1a (us.length) n1a) (us.length) (flatR LT us)) := Lib.hid (ownR_below O_ra11.out hb)
  have Y_a12 : Ty w12 (w4.heap.size) 25 := Ty.below Y_a11 hb
  have K_w2_12 : Below w2.heap.size w2 w12 := below_thru K_w2_11 hb
  have K_w4_12 : Below w4.heap.size w4 w12 := below_thru K_w4_11 hb
  have K_w6_12 : Below w6.heap.size w6 w12 := below_thru K_w6_11 hb
  have K_w8_12 : Below w8.heap.size w8 w12 := below_thru K_w8_11 hb
  have K_w10_12 : Below w10.heap.size w10 w12 := below_thru K_w10_11 hb
  clear O_ra11 Y_a11 K_w2_11 K_w4_11 K_w6_11 K_w8_11 K_w10_11
  have hB12 : Below w.heap.size w w12 := below_thru hB11 hb
  have hs12 := hB12.size
  have x_d12 : Box w12 (w.heap.size) ([v1, v2]) := Box.below x_d11 hb
  have x_o12 : Box w12 (w2.heap.size) ([.slice p1o ts.length n1o, .slice p2o cs.length n2o]) := Box.below x_o11 hb
  have x_a12 : Box w12 (w4.heap.size) ([.slice p1a us.length n1a, .slice p2a ds.length n2a]) := Box.below x_a11 hb
  have x_b12 : Box w12 (w6.heap.size) ([.slice p1b us.length n1b, .slice p2b ds.length n2b]) := Box.below x_b11 hb
  have x_g12 : Box w12 (w8.heap.size) ([.slice p1g us2.length n1g, .slice p2g ds2.length n2g]) := Box.below x_g11 hb
  have x_h12 : Box w12 (w10.heap.size) ([.slice p1h us2.length n1h, .slice p2h ds2.length n2h]) := Box.below x_h11 hb
  clear hB11 hs11 x_d11 x_o11 x_a11 x_b11 x_g11 x_h11
  clear hb
  go_wp2_with (first
    | (refine wpList_load_box9 rfl _ _ rfl x_a12 rfl Try.underlying25 rfl (size_id12 _ _) ?_)
    | (refine wpList_load_box9 rfl _ _ rfl x_b12 rfl Try.underlying25 rfl (size_id12 _ _) ?_))
  refine (SM _ _ _ _ _ (Ia.out.below K_w4_12) (Ib.out.below K_w6_12)).mono ?_
  rintro e w13 ⟨rfl, hb⟩
  have O_ra13 : Hid (w13.ownsRow (W2_0.heap.size) 34 36 (.slice p1a (us.length) n1a) (us.length) (flatR LT us)) := Lib.hid (ownR_below O_ra12.out hb)
  have Y_a13 : Ty w13 (w4.heap.size) 25 := Ty.below Y_a12 hb
  have K_w2_13 : Below w2.heap.size w2 w13 := below_thru K_w2_12 hb
  have K_w4_13 : Below w4.heap.size w4 w13 := below_thru K_w4_12 hb
  have K_w6_13 : Below w6.heap.size w6 w13 := below_thru K_w6_12 hb
  have K_w8_13 : Below w8.heap.size w8 w13 := below_thru K_w8_12 hb
  have K_w10_13 : Below w10.heap.size w10 w13 := below_thru K_w10_12 hb
  clear O_ra12 Y_a12 K_w2_12 K_w4_12 K_w6_12 K_w8_12 K_w10_12
  have hB13 : Below w.heap.size w w13 := below_thru hB12 hb
  have hs13 := hB13.size
  have x_d13 : Box w13 (w.heap.size) ([v1, v2]) := Box.below x_d12 hb
  have x_o13 : Box w13 (w2.heap.size) ([.slice p1o ts.length n1o, .slice p2o cs.length n2o]) := Box.below x_o12 hb
  have x_a13 : Box w13 (w4.heap.size) ([.slice p1a us.length n1a, .slice p2a ds.length n2a]) := Box.below x_a12 hb
  have x_b13 : Box w13 (w6.heap.size) ([.slice p1b us.length n1b, .slice p2b ds.length n2b]) := Box.below x_b12 hb
  have x_g13 : Box w13 (w8.heap.size) ([.slice p1g us2.length n1g, .slice p2g ds2.length n2g]) := Box.below x_g12 hb
  have x_h13 : Box w13 (w10.heap.size) ([.slice p1h us2.length n1h, .slice p2h ds2.length n2h]) := Box.below x_h12 hb
  clear hB12 hs12 x_d12 x_o12 x_a12 x_b12 x_g12 x_h12
  clear hb
  clear x_b13
  go_wp2_with (first
    | (refine wpList_load_box9 rfl _ _ rfl x_g13 rfl Try.underlying25 rfl (size_id12 _ _) ?_)
    | (refine wpList_load_box9 rfl _ _ rfl x_h13 rfl Try.underlying25 rfl (size_id12 _ _) ?_))
  refine (SM _ _ _ _ _ (Ig.out.below K_w8_13) (Ih.out.below K_w10_13)).mono ?_
  rintro e w14 ⟨rfl, hb⟩
  have O_ra14 : Hid (w14.ownsRow (W2_0.heap.size) 34 36 (.slice p1a (us.length) n1a) (us.length) (flatR LT us)) := Lib.hid (ownR_below O_ra13.out hb)
  have Y_a14 : Ty w14 (w4.heap.size) 25 := Ty.below Y_a13 hb
  have K_w2_14 : Below w2.heap.size w2 w14 := below_thru K_w2_13 hb
  have K_w4_14 : Below w4.heap.size w4 w14 := below_thru K_w4_13 hb
  have K_w6_14 : Below w6.heap.size w6 w14 := below_thru K_w6_13 hb
  have K_w8_14 : Below w8.heap.size w8 w14 := below_thru K_w8_13 hb
  have K_w10_14 : Below w10.heap.size w10 w14 := below_thru K_w10_13 hb
  clear O_ra13 Y_a13 K_w2_13 K_w4_13 K_w6_13 K_w8_13 K_w10_13
  have hB14 : Below w.heap.size w w14 := below_thru hB13 hb
  have hs14 := hB14.size
  have x_d14 : Box w14 (w.heap.size) ([v1, v2]) := Box.below x_d13 hb
  have x_o14 : Box w14 (w2.heap.size) ([.slice p1o ts.length n1o, .slice p2o cs.length n2o]) := Box.below x_o13 hb
  have x_a14 : Box w14 (w4.heap.size) ([.slice p1a us.length n1a, .slice p2a ds.length n2a]) := Box.below x_a13 hb
  have x_g14 : Box w14 (w8.heap.size) ([.slice p1g us2.length n1g, .slice p2g ds2.length n2g]) := Box.below x_g13 hb
  have x_h14 : Box w14 (w10.heap.size) ([.slice p1h us2.length n1h, .slice p2h ds2.length n2h]) := Box.below x_h13 hb
  clear hB13 hs13 x_d13 x_o13 x_a13 x_g13 x_h13
  clear hb
  clear x_g14
  clear x_h14
  clear K_w4_14
  clear K_w6_14
  clear K_w8_14
  clear K_w10_14
  clear Ia Ib Ig Ih
  have hbase := Nat.le_of_eq (rfl : W2_0.heap.size = W2_0.heap.size); have kb1 : w.heap.size ≤ W2_0.heap.size := low_a.size; have kb2 : w2.heap.size ≤ W2_0.heap.size := lk_w2
  have lb_d := lo_d
  have lb_o := lo_o
  have hz : W2_0.heap.size ≤ w14.heap.size := by have := (x_a14).lt; have := lq_a; omega
  go_wp2_with fail
  go_loopw [16] (fun p16 wr => ∃ (k : Nat) (ls : List Tk), k ≤ us.length ∧ p16 = .int .i64 k ∧ Hid (ls.length = us.length) ∧ Hid (wr.ownsRow (W2_0.heap.size) 34 36 (.slice p1a us.length n1a) us.length (flatR LT ls)) ∧ Box wr (w.heap.size) [v1, v2] ∧ Box wr (w2.heap.size) [.slice p1o ts.length n1o, .slice p2o cs.length n2o] ∧ (Box wr (w4.heap.size) [.slice p1a us.length n1a, .slice p2a ds.length n2a] ∧ Ty wr (w4.heap.size) 25) ∧ Below w2.heap.size w2 wr ∧ W2_0.heap.size ≤ wr.heap.size ∧ Below w.heap.size w wr) (fun p16 _ => us.length - (intOf p16).toNat)
  case atStart => exact ⟨0, us, Nat.zero_le _, rfl, Lib.hid rfl, O_ra14, x_d14, x_o14, ⟨x_a14, Y_a14⟩, K_w2_14, hz, hB14⟩
  case round =>
    clear O_ra14 x_d14 x_o14 x_a14 Y_a14 K_w2_14 hB14 hs14 hz
    obtain ⟨k, ls, hk, rfl, HLS, HO, x_d, x_o, ⟨x_a, y_a⟩, hK, hz, hB⟩ := hrel
    have hs := hB.size; have ca := x_a.c 0 _ rfl; have za := x_a.lt
    by_cases hlt : k < us.length
    case pos =>
      have hkl : k < ls.length := by rw [HLS.out]; exact hlt
      obtain ⟨f, hf⟩ : ∃ f, ls[k]? = some f := ⟨_, List.getElem?_eq_getElem hkl⟩
      obtain ⟨g, rfl⟩ : ∃ g, p1a = some ⟨g, 0, none⟩ := by
        rcases HO.out.2 with ⟨_, h0⟩ | ⟨g, cap, cur, e, _⟩
        · omega
        · injection e with e1; exact ⟨g, e1⟩
      have hc : wr.cell? ⟨g, k * 36 + 1, none⟩ = some (.int .u32 f.k.u) := by rw [HO.out.cellAt (k * 36 + 1) (by omega)]; exact flatR_at (L := LT) hf rfl
      have hfr := HO.out.frozenAt (k * 36 + 1)
      have hu := f.k.hu; obtain ⟨m, hm⟩ : ∃ m, IntKind.u32.wrap (f.k.u + 1) = m := ⟨_, rfl⟩
      have hm2 : 0 ≤ m ∧ m ≤ 4294967295 := by rw [← hm, IntKind.wrap_u32]; omega
      have ST := HO.out.stored (k * 36 + 1) (.int .u32 m)
      rw [show (flatR LT ls).set (k * 36 + 1) (.int .u32 m) = flatR LT (ls.set k (f.usr m hm2)) from flatR_set (L := LT) hf rfl (by decide)] at ST
      have HO2 := Lib.hid ST.1; have HL2 := Lib.hid (show (ls.set k (f.usr m hm2)).length = us.length by rw [List.length_set]; exact HLS.out)
      have hKB := (Below.refl (W2_0.heap.size) wr).grown ST.2 hz (ownR_block HO.out)
      have x_d2 := Box.keep12 x_d hKB (by omega); have x_o2 := Box.keep12 x_o hKB (by omega); have XA := Box.grownT x_a y_a HO.out (by decide) ST.2
      have hB2 := hB.trans (hKB.mono (by omega)); have hK2 := hK.trans (hKB.mono (by omega)); have hz2 := Nat.le_trans hz hKB.size
      have i0 : (0 : Int) ≤ (k : Int) := (by omega); have i1 : (k : Int) < (us.length : Int) := (by omega); have zc := lt_of_cell hc
      clear HO ST hKB HLS hkl hf hu x_d x_o y_a hB hK
      go_wp2_with fail
      go_roundw
      case rel => exact ⟨k + 1, _, by omega, by go_num, HL2, HO2, x_d2, x_o2, XA, hK2, hz2, hB2⟩
      case measure => simp [intOf]; omega
    case neg =>
      have hn : decide ((k : Int) < (us.length : Int)) = false := decide_eq_false (by omega)
      have x_d90 := x_d; have x_o90 := x_o; have K_w2_90 := hK; have hB90 := hB; have hs90 := hs; clear x_d x_o hK hB hs HO HLS x_a y_a
      go_upto_region 14 with fail
      clear hn ca za hz
      refine wp_region_held_drew (S := fun W => Box W (w.heap.size) ([v1, v2]) ∧ Box W (w2.heap.size) ([.slice p1o ts.length n1o, .slice p2o cs.length n2o])) (by kernel_rfl) (And.intro (x_d90).drew (x_o90).drew) (fun _ => ?_)
      refine F_drew (F := fun W => wpAnyH _ _ _ _ _ _ _ _ W) ?_
      intro Wq0 hbq0
      clear hs90
      have x_d_q0 : Box Wq0 (w.heap.size) ([v1, v2]) := Box.below x_d90 hbq0
      have x_o_q0 : Box Wq0 (w2.heap.size) ([.slice p1o ts.length n1o, .slice p2o cs.length n2o]) := Box.below x_o90 hbq0
      have Bq0 := below_thru hB90 hbq0
      have K_w2_q0 := below_thru K_w2_90 hbq0
      clear x_d90 x_o90 hB90 K_w2_90 hbq0
      refine takeH 0 77 (v := .agg ([.slice p1o ts.length n1o, .slice p2o cs.length n2o]).toArray) rfl (by rfl) (by kernel_rfl) (by kernel_rfl) (by kernel_rfl) (fun _ _ _ h => h) (yieldsIf_load_mid (by rfl) _ _ rfl _ _ rfl ([.slice p1o ts.length n1o, .slice p2o cs.length n2o]) _ (fun wq hq => Box.range (hq.2)) Try.underlying25 rfl (size_id12 _ _)) ((And.intro x_d_q0 x_o_q0)) ?_
      try simp only [Act.put, List.setIfInBounds_toArray, List.set_cons_zero, List.set_cons_succ]
      refine takeH 2 79 (v := .agg ([v1, v2]).toArray) rfl (by rfl) (by kernel_rfl) (by kernel_rfl) (by kernel_rfl) (fun _ _ _ h => h) (yieldsIf_load_mid (by rfl) _ _ rfl _ _ rfl ([v1, v2]) _ (fun wq hq => Box.range (hq.1)) Try.underlying25 rfl SD.out) ((And.intro x_d_q0 x_o_q0)) ?_
      try simp only [Act.put, List.setIfInBounds_toArray, List.set_cons_zero, List.set_cons_succ]
      refine wpAnyH_ready (rs := [1]) (by kernel_rfl) (by simp) (AllReadyH.cons rfl (fun K hK => ?_) AllReadyH.nil)
      go_simp
      refine (CP _ _ (Io.out.below K_w2_q0)).mono ?_
      rintro e Wq1 ⟨rfl, hbq1⟩
      have x_d_q1 : Box Wq1 (w.heap.size) ([v1, v2]) := Box.below x_d_q0 hbq1
      have x_o_q1 : Box Wq1 (w2.heap.size) ([.slice p1o ts.length n1o, .slice p2o cs.length n2o]) := Box.below x_o_q0 hbq1
      have Bq1 := below_thru Bq0 hbq1
      have K_w2_q1 := below_thru K_w2_q0 hbq1
      clear x_d_q0 x_o_q0 Bq0 K_w2_q0 hbq1
      refine hK.out _ _ (And.intro x_d_q1 x_o_q1) (fun _ => ?_); clear hK K
      refine wpAnyH_ready (rs := [3]) (by kernel_rfl) (by simp) (AllReadyH.cons rfl (fun K hK => ?_) AllReadyH.nil)
      go_simp
      refine (CR _ _ (HD.out.below Bq1)).mono ?_
      rintro e Wq2 ⟨rfl, hbq2⟩
      have x_d_q2 : Box Wq2 (w.heap.size) ([v1, v2]) := Box.below x_d_q1 hbq2
      have x_o_q2 : Box Wq2 (w2.heap.size) ([.slice p1o ts.length n1o, .slice p2o cs.length n2o]) := Box.below x_o_q1 hbq2
      have Bq2 := below_thru Bq1 hbq2
      have K_w2_q2 := below_thru K_w2_q1 hbq2
      clear x_d_q1 x_o_q1 Bq1 K_w2_q1 hbq2
      refine hK.out _ _ (And.intro x_d_q2 x_o_q2) (fun _ => ?_); clear hK K
      refine takeH 4 81 (v := ?vq4_3) rfl (by rfl) (by kernel_rfl) (by kernel_rfl) (by kernel_rfl) (fun _ _ _ h => h) (Or.inl ⟨by rfl, ?_⟩) ((And.intro x_d_q2 x_o_q2)) ?_
      rotate_left
      · intro wq hSq
        go_simp
        exact rfl
      try simp only [Act.put, List.setIfInBounds_toArray, List.set_cons_zero, List.set_cons_succ]
      refine takeH 5 82 (v := ?vq5_4) rfl (by rfl) (by kernel_rfl) (by kernel_rfl) (by kernel_rfl) (fun _ _ _ h => h) (Or.inl ⟨by rfl, ?_⟩) ((And.intro x_d_q2 x_o_q2)) ?_
      rotate_left
      · intro wq hSq
        go_simp
        exact rfl
      try simp only [Act.put, List.setIfInBounds_toArray, List.set_cons_zero, List.set_cons_succ]
      refine takeH 6 83 (v := ?vq6_5) rfl (by rfl) (by kernel_rfl) (by kernel_rfl) (by kernel_rfl) (fun _ _ _ h => h) (Or.inl ⟨by rfl, ?_⟩) ((And.intro x_d_q2 x_o_q2)) ?_
      rotate_left
      · intro wq hSq
        go_simp
        exact rfl
      try simp only [Act.put, List.setIfInBounds_toArray, List.set_cons_zero, List.set_cons_succ]
      refine takeH 7 84 (v := ?vq7_6) rfl (by rfl) (by kernel_rfl) (by kernel_rfl) (by kernel_rfl) (fun _ _ _ h => h) (Or.inl ⟨by rfl, ?_⟩) ((And.intro x_d_q2 x_o_q2)) ?_
      rotate_left
      · intro wq hSq
        go_simp
        exact rfl
      try simp only [Act.put, List.setIfInBounds_toArray, List.set_cons_zero, List.set_cons_succ]
      refine takeH 8 85 (v := ?vq8_7) rfl (by rfl) (by kernel_rfl) (by kernel_rfl) (by kernel_rfl) (fun _ _ _ h => h) (Or.inl ⟨by rfl, ?_⟩) ((And.intro x_d_q2 x_o_q2)) ?_
      rotate_left
      · intro wq hSq
        go_simp
        exact rfl
      try simp only [Act.put, List.setIfInBounds_toArray, List.set_cons_zero, List.set_cons_succ]
      refine takeH 9 86 (v := ?vq9_8) rfl (by rfl) (by kernel_rfl) (by kernel_rfl) (by kernel_rfl) (fun _ _ _ h => h) (Or.inl ⟨by rfl, ?_⟩) ((And.intro x_d_q2 x_o_q2)) ?_
      rotate_left
      · intro wq hSq
        go_simp
        exact rfl
      try simp only [Act.put, List.setIfInBounds_toArray, List.set_cons_zero, List.set_cons_succ]
      refine takeH 10 87 (v := ?vq10_9) rfl (by rfl) (by kernel_rfl) (by kernel_rfl) (by kernel_rfl) (fun _ _ _ h => h) (Or.inl ⟨by rfl, ?_⟩) ((And.intro x_d_q2 x_o_q2)) ?_
      rotate_left
      · intro wq hSq
        go_simp
        exact rfl
      try simp only [Act.put, List.setIfInBounds_toArray, List.set_cons_zero, List.set_cons_succ]
      refine takeH 11 88 (v := ?vq11_10) rfl (by rfl) (by kernel_rfl) (by kernel_rfl) (by kernel_rfl) (fun _ _ _ h => h) (Or.inl ⟨by rfl, ?_⟩) ((And.intro x_d_q2 x_o_q2)) ?_
      rotate_left
      · intro wq hSq
        go_simp
        exact rfl
      try simp only [Act.put, List.setIfInBounds_toArray, List.set_cons_zero, List.set_cons_succ]
      refine takeH 12 89 (v := ?vq12_11) rfl (by rfl) (by kernel_rfl) (by kernel_rfl) (by kernel_rfl) (fun _ _ _ h => h) (Or.inl ⟨by rfl, ?_⟩) ((And.intro x_d_q2 x_o_q2)) ?_
      rotate_left
      · intro wq hSq
        go_simp
        exact rfl
      try simp only [Act.put, List.setIfInBounds_toArray, List.set_cons_zero, List.set_cons_succ]
      refine takeH 13 90 (v := ?vq13_12) rfl (by rfl) (by kernel_rfl) (by kernel_rfl) (by kernel_rfl) (fun _ _ _ h => h) (Or.inl ⟨by rfl, ?_⟩) ((And.intro x_d_q2 x_o_q2)) ?_
      rotate_left
      · intro wq hSq
        go_simp
        exact rfl
      try simp only [Act.put, List.setIfInBounds_toArray, List.set_cons_zero, List.set_cons_succ]
      refine takeH 14 91 (v := ?vq14_13) rfl (by rfl) (by kernel_rfl) (by kernel_rfl) (by kernel_rfl) (fun _ _ _ h => h) (Or.inl ⟨by rfl, ?_⟩) ((And.intro x_d_q2 x_o_q2)) ?_
      rotate_left
      · intro wq hSq
        go_simp
        exact rfl
      try simp only [Act.put, List.setIfInBounds_toArray, List.set_cons_zero, List.set_cons_succ]
      refine takeH 15 92 (v := ?vq15_14) rfl (by rfl) (by kernel_rfl) (by kernel_rfl) (by kernel_rfl) (fun _ _ _ h => h) (Or.inl ⟨by rfl, ?_⟩) ((And.intro x_d_q2 x_o_q2)) ?_
      rotate_left
      · intro wq hSq
        go_simp
        exact rfl
      try simp only [Act.put, List.setIfInBounds_toArray, List.set_cons_zero, List.set_cons_succ]
      refine takeH 16 93 (v := .agg ([.slice p1o ts.length n1o, .slice p2o cs.length n2o]).toArray) rfl (by rfl) (by kernel_rfl) (by kernel_rfl) (by kernel_rfl) (fun _ _ _ h => h) (yieldsIf_load_mid (by rfl) _ _ rfl _ _ rfl ([.slice p1o ts.length n1o, .slice p2o cs.length n2o]) _ (fun wq hq => Box.range (hq.2)) Try.underlying25 rfl (size_id12 _ _)) ((And.intro x_d_q2 x_o_q2)) ?_
      try simp only [Act.put, List.setIfInBounds_toArray, List.set_cons_zero, List.set_cons_succ]
      refine takeH 17 94 (v := .agg ([v1, v2]).toArray) rfl (by rfl) (by kernel_rfl) (by kernel_rfl) (by kernel_rfl) (fun _ _ _ h => h) (yieldsIf_load_mid (by rfl) _ _ rfl _ _ rfl ([v1, v2]) _ (fun wq hq => Box.range (hq.1)) Try.underlying25 rfl SD.out) ((And.intro x_d_q2 x_o_q2)) ?_
      try simp only [Act.put, List.setIfInBounds_toArray, List.set_cons_zero, List.set_cons_succ]
      refine wpAnyH_ready (rs := [18]) (by kernel_rfl) (by simp) (AllReadyH.cons rfl (fun K hK => ?_) AllReadyH.nil)
      go_simp
      refine (SM _ _ _ _ _ (Io.out.below K_w2_q2) (HD.out.below Bq2)).mono ?_
      rintro e Wq15 ⟨rfl, hbq15⟩
      have x_d_q15 : Box Wq15 (w.heap.size) ([v1, v2]) := Box.below x_d_q2 hbq15
      have x_o_q15 : Box Wq15 (w2.heap.size) ([.slice p1o ts.length n1o, .slice p2o cs.length n2o]) := Box.below x_o_q2 hbq15
      have Bq15 := below_thru Bq2 hbq15
      have K_w2_q15 := below_thru K_w2_q2 hbq15
      clear x_d_q2 x_o_q2 Bq2 K_w2_q2 hbq15
      refine hK.out _ _ (And.intro x_d_q15 x_o_q15) (fun _ => ?_); clear hK K
      refine takeH 19 96 (v := ?vq19_16) rfl (by rfl) (by kernel_rfl) (by kernel_rfl) (by kernel_rfl) (fun _ _ _ h => h) (Or.inl ⟨by rfl, ?_⟩) ((And.intro x_d_q15 x_o_q15)) ?_
      rotate_left
      · intro wq hSq
        go_simp
        exact rfl
      try simp only [Act.put, List.setIfInBounds_toArray, List.set_cons_zero, List.set_cons_succ]
      refine takeH 20 97 (v := ?vq20_17) rfl (by rfl) (by kernel_rfl) (by kernel_rfl) (by kernel_rfl) (fun _ _ _ h => h) (Or.inl ⟨by rfl, ?_⟩) ((And.intro x_d_q15 x_o_q15)) ?_
      rotate_left
      · intro wq hSq
        go_simp
        exact rfl
      try simp only [Act.put, List.setIfInBounds_toArray, List.set_cons_zero, List.set_cons_succ]
      refine takeH 22 99 (v := .agg id0.toArray) rfl (by rfl) (by kernel_rfl) (by kernel_rfl) (by kernel_rfl) (fun _ _ _ h => h) (yieldsIf_build (by rfl) _ _ rfl (us := #[]) (by rfl) BI) ((And.intro x_d_q15 x_o_q15)) ?_
      try simp only [Act.put, List.setIfInBounds_toArray, List.set_cons_zero, List.set_cons_succ]
      refine wpAnyH_ready (rs := [21]) (by kernel_rfl) (by simp) (AllReadyH.cons rfl (fun K hK => ?_) AllReadyH.nil)
      go_simp
      refine (NW _).mono ?_
      rintro e Wq18 ⟨n1, n2, rfl, on1, on2, hbq18⟩
      have IN : IsD Wq18 (.agg #[n1, n2]) [] [] := ⟨_, _, rfl, IsR.own on1 rfl rfl, IsR.own on2 rfl rfl⟩
      clear on1 on2
      have x_d_q18 : Box Wq18 (w.heap.size) ([v1, v2]) := Box.below x_d_q15 hbq18
      have x_o_q18 : Box Wq18 (w2.heap.size) ([.slice p1o ts.length n1o, .slice p2o cs.length n2o]) := Box.below x_o_q15 hbq18
      have Bq18 := below_thru Bq15 hbq18
      have K_w2_q18 := below_thru K_w2_q15 hbq18
      clear x_d_q15 x_o_q15 Bq15 K_w2_q15 hbq18
      have KN18 : Below Wq18.heap.size Wq18 Wq18 := Below.refl _ _
      refine hK.out _ _ (And.intro x_d_q18 x_o_q18) (fun _ => ?_); clear hK K
      refine wpAnyH_ready (rs := [23]) (by kernel_rfl) (by simp) (AllReadyH.cons rfl (fun K hK => ?_) AllReadyH.nil)
      go_simp
      refine (SM _ _ _ _ _ (IN.below KN18) (⟨_, _, rfl, IsR.none, IsR.none⟩ : IsD _ (.agg id0.toArray) [] [])).mono ?_
      rintro e Wq19 ⟨rfl, hbq19⟩
      have x_d_q19 : Box Wq19 (w.heap.size) ([v1, v2]) := Box.below x_d_q18 hbq19
      have x_o_q19 : Box Wq19 (w2.heap.size) ([.slice p1o ts.length n1o, .slice p2o cs.length n2o]) := Box.below x_o_q18 hbq19
      have Bq19 := below_thru Bq18 hbq19
      have K_w2_q19 := below_thru K_w2_q18 hbq19
      have K_NEW_q19 := below_thru KN18 hbq19
      clear x_d_q18 x_o_q18 Bq18 K_w2_q18 KN18 hbq19
      refine hK.out _ _ (And.intro x_d_q19 x_o_q19) (fun _ => ?_); clear hK K
      refine takeH 24 101 (v := ?vq24_20) rfl (by rfl) (by kernel_rfl) (by kernel_rfl) (by kernel_rfl) (fun _ _ _ h => h) (Or.inl ⟨by rfl, ?_⟩) ((And.intro x_d_q19 x_o_q19)) ?_
      rotate_left
      · intro wq hSq
        go_simp
        exact rfl
      try simp only [Act.put, List.setIfInBounds_toArray, List.set_cons_zero, List.set_cons_succ]
      refine takeH 25 6 (v := ?vq25_21) rfl (by rfl) (by kernel_rfl) (by kernel_rfl) (by kernel_rfl) (fun _ _ _ h => h) (Or.inl ⟨by rfl, ?_⟩) ((And.intro x_d_q19 x_o_q19)) ?_
      rotate_left
      · intro wq hSq
        go_simp
        exact rfl
      try simp only [Act.put, List.setIfInBounds_toArray, List.set_cons_zero, List.set_cons_succ]
      refine wpAnyH_done (by kernel_rfl) ?_ _
      go_wp2_with fail
      go_returns
      exact ⟨rfl, Bq19⟩

theorem mints12_is {v : Value} {ts : List Tk} {cs : List Cmd} (t : Tk) (c : Cmd) (hl : ts.length + cs.length ≤ 1000000000000000) (w : World) (h1 : IsD w v ts cs) : Calls Try.prog 4 #[v, .agg t.v.toArray, .agg (ccell c).toArray] w fun e w' => e = .returned (.bool true) ∧ Below w.heap.size w w' := by
  by_cases hg : GrtD (ts.length + cs.length)
  · exact mints12_a t c hl hg w h1
  · exact mints12_b t c hl hg w h1

end Go.Proofs.Ytpccahdbienjeaa
