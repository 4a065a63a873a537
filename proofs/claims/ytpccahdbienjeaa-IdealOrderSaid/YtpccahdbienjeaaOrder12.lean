/-
  IdealOrder, walked.
-/
import Derived.Test.YtpccahdbienjeaaIdAlive
import Derived.Test.YtpccahdbienjeaaIdExM
namespace Go.Proofs.Ytpccahdbienjeaa
open Go.RowKit

def Req.moved12 (r : Req) (n m : Int) (hn : 0 ≤ n ∧ n ≤ 65535) (hm : 0 ≤ m ∧ m ≤ 4294967295) : Req := { r with ep := n, co := m, hep := hn, hco := hm }
theorem acc_order12 {x y : List Tk} {d : List Cmd} {f : Frm} (hx : ChkD x d 0) (hy : ChkD y d 0) (h : ∀ v, v ∈ x ↔ v ∈ y) : Acc x d f ↔ Acc y d f := by
  unfold Acc AccD
  rw [h]
  exact ⟨fun g => ⟨hy, g.2⟩, fun g => ⟨hx, g.2⟩⟩
theorem acc_moved12 {ts : List Tk} {cs : List Cmd} {f : Frm} {n m : Int} (hn : 0 ≤ n ∧ n ≤ 65535) (hm : 0 ≤ m ∧ m ≤ 4294967295) (hk : f.kd = 1) (hf : f.Ok) : Acc ts cs (Frm.req (f.r.moved12 n m hn hm)) ↔ Acc ts cs f := by
  have k1 : f.kd ≠ 2 := by rw [hk]; decide
  have ok : f.r.k.t < 16 := by
    rcases hf with ⟨_, h, _⟩ | ⟨h, _⟩
    · exact h
    · exact absurd h k1
  have e1 := AccD.of1 (ts := ts) (cs := cs) k1
  have e2 := AccD.of1 (ts := ts) (cs := cs) (f := Frm.req (f.r.moved12 n m hn hm)) (show (1 : Int) ≠ 2 by decide)
  unfold Acc
  rw [e1, e2]
  exact ⟨fun g => ⟨g.1, hf, g.2.2⟩, fun g => ⟨g.1, Frm.req_ok ok, g.2.2⟩⟩

set_option maxRecDepth 100000 in
set_option maxHeartbeats 6400000 in
theorem order12_n {v : Value} {ts : List Tk} {cs : List Cmd} (t u : Tk) (f : Frm) {n m : Int} (hl : ts.length + cs.length ≤ 1000000000000000) (hg : ¬ FitD ts cs f) (w : World) (h1 : IsD w v ts cs) : Calls Try.prog 7 #[v, .agg t.v.toArray, .agg u.v.toArray, .agg (mcell f).toArray, .int .u16 n, .int .u32 m] w fun e w' => e = .returned (.bool true) ∧ Below w.heap.size w w' := by
  have FT := fun (W : World) (x : Value) (h : IsD W x ts cs) => lfit12_is f hl (b := false) (⟨fun h => (Bool.false_ne_true h).elim, fun h => absurd h hg⟩) W h; have AL := fun W => alive12_is W
  have HD := Lib.hid h1
  obtain ⟨v1, v2, rfl, g1, g2⟩ := id h1
  have SD := Lib.hid (size_id12 v1 v2)
  clear g1 g2 h1
  have SV := Lib.hid (size_tk t); have SU := Lib.hid (size_tk u); have SF := Lib.hid (size_frm f)
  obtain ⟨V, hV⟩ : ∃ X, t.v = X := ⟨_, rfl⟩
  rw [hV] at SV ⊢
  clear hV
  obtain ⟨U, hU⟩ : ∃ X, u.v = X := ⟨_, rfl⟩
  rw [hU] at SU ⊢
  clear hU
  obtain ⟨F, hF⟩ : ∃ X, mcell f = X := ⟨_, rfl⟩
  rw [hF] at SF FT ⊢
  clear hF
  clear hl hg
  go_enter Try.func7, Try.ntmps7
  go_upto_region 1 with fail
  refine F_gen (F := fun W => Code.wp _ _ _ _ W) (J := fun W => Box W (w.heap.size) ([v1, v2]) ∧ Box W (w.heap.size + 1) (V) ∧ Box W (w.heap.size + 2) (U) ∧ Box W (w.heap.size + 3) (F) ∧ Below w.heap.size w W) (And.intro (Box.alloc (Box.alloc (Box.alloc (Box.newc rfl rfl) _) _) _) (And.intro (Box.alloc (Box.alloc (Box.newc rfl (by simp)) _) _) (And.intro (Box.alloc (Box.newc rfl (by simp)) _) (And.intro (Box.newc rfl (by simp)) (by go_grown))))) ?_
  intro w0 ⟨e_d, e_t, e_u, e_f, hB0⟩
  have hs0 := hB0.size
  have x_d0 := e_d; clear e_d
  have x_t0 := e_t; clear e_t
  have x_u0 := e_u; clear e_u
  have x_f0 := e_f; clear e_f
  go_wp2_with (first
    | (refine wpList_load_box9 rfl _ _ rfl x_d0 rfl Try.underlying25 rfl SD.out ?_)
    | (refine wpList_load_box9 rfl _ _ rfl x_f0 rfl Try.underlying47 rfl SF.out ?_))
  refine (FT _ _ (HD.out.below hB0)).mono ?_
  rintro e w1 ⟨rfl, hb⟩
  have hB1 : Below w.heap.size w w1 := below_thru hB0 hb
  have hs1 := hB1.size
  have x_d1 : Box w1 (w.heap.size) ([v1, v2]) := Box.below x_d0 hb
  have x_t1 : Box w1 (w.heap.size + 1) (V) := Box.below x_t0 hb
  have x_u1 : Box w1 (w.heap.size + 2) (U) := Box.below x_u0 hb
  have x_f1 : Box w1 (w.heap.size + 3) (F) := Box.below x_f0 hb
  clear hB0 hs0 x_d0 x_t0 x_u0 x_f0
  clear hb
  go_wp2_with fail
  refine (AL _).mono ?_
  rintro e w2 ⟨rfl, hb⟩
  have hB2 : Below w.heap.size w w2 := below_thru hB1 hb
  have hs2 := hB2.size
  have x_d2 : Box w2 (w.heap.size) ([v1, v2]) := Box.below x_d1 hb
  have x_t2 : Box w2 (w.heap.size + 1) (V) := Box.below x_t1 hb
  have x_u2 : Box w2 (w.heap.size + 2) (U) := Box.below x_u1 hb
  have x_f2 : Box w2 (w.heap.size + 3) (F) := Box.below x_f1 hb
  clear hB1 hs1 x_d1 x_t1 x_u1 x_f1
  clear hb
  go_wp2_with fail
  go_returns
  exact ⟨rfl, hB2⟩

set_option maxRecDepth 100000 in
set_option maxHeartbeats 6400000 in
theorem order12_e {v : Value} {ts : List Tk} {cs : List Cmd} (t u : Tk) (f : Frm) {n m : Int} (hl : ts.length + cs.length ≤ 1000000000000000) (hg : FitD ts cs f) {asA bs : List Tk} {da db : List Cmd} {e g : Int} (ha : PutT ts cs t asA da e) (hb : PutT ts cs u bs db g) (he : e ≠ 0) (w : World) (h1 : IsD w v ts cs) : Calls Try.prog 7 #[v, .agg t.v.toArray, .agg u.v.toArray, .agg (mcell f).toArray, .int .u16 n, .int .u32 m] w fun e w' => e = .returned (.bool true) ∧ Below w.heap.size w w' := by
  have FT := fun (W : World) (x : Value) (h : IsD W x ts cs) => lfit12_is f hl (b := true) (⟨fun _ => hg, fun _ => rfl⟩) W h; have AL := fun W => alive12_is W
  have h180 := not_grt hg.1; have hc := hg.2.1
  have PA := fun (W : World) (x : Value) (h : IsD W x ts cs) => ptok_is t h180 ha W h; have PB := fun (W : World) (x : Value) (h : IsD W x ts cs) => ptok_is u h180 hb W h
  have d1 : (e == 0) = false := by simpa using he
  have d2 : (e != 0) = true := by simpa using he
  clear hc
  have HD := Lib.hid h1
  obtain ⟨v1, v2, rfl, g1, g2⟩ := id h1
  have SD := Lib.hid (size_id12 v1 v2)
  clear g1 g2 h1
  have SV := Lib.hid (size_tk t); have SU := Lib.hid (size_tk u); have SF := Lib.hid (size_frm f)
  obtain ⟨V, hV⟩ : ∃ X, t.v = X := ⟨_, rfl⟩
  rw [hV] at SV PA ⊢
  clear hV
  obtain ⟨U, hU⟩ : ∃ X, u.v = X := ⟨_, rfl⟩
  rw [hU] at SU PB ⊢
  clear hU
  obtain ⟨F, hF⟩ : ∃ X, mcell f = X := ⟨_, rfl⟩
  rw [hF] at SF FT ⊢
  clear hF
  clear hl hg ha hb he h180
  go_enter Try.func7, Try.ntmps7
  go_upto_region 1 with fail
  refine F_gen (F := fun W => Code.wp _ _ _ _ W) (J := fun W => Box W (w.heap.size) ([v1, v2]) ∧ Box W (w.heap.size + 1) (V) ∧ Box W (w.heap.size + 2) (U) ∧ Box W (w.heap.size + 3) (F) ∧ Below w.heap.size w W) (And.intro (Box.alloc (Box.alloc (Box.alloc (Box.newc rfl rfl) _) _) _) (And.intro (Box.alloc (Box.alloc (Box.newc rfl (by simp)) _) _) (And.intro (Box.alloc (Box.newc rfl (by simp)) _) (And.intro (Box.newc rfl (by simp)) (by go_grown))))) ?_
  intro w0 ⟨e_d, e_t, e_u, e_f, hB0⟩
  have hs0 := hB0.size
  have x_d0 := e_d; clear e_d
  have x_t0 := e_t; clear e_t
  have x_u0 := e_u; clear e_u
  have x_f0 := e_f; clear e_f
  go_wp2_with (first
    | (refine wpList_load_box9 rfl _ _ rfl x_d0 rfl Try.underlying25 rfl SD.out ?_)
    | (refine wpList_load_box9 rfl _ _ rfl x_f0 rfl Try.underlying47 rfl SF.out ?_))
  refine (FT _ _ (HD.out.below hB0)).mono ?_
  rintro e w1 ⟨rfl, hb⟩
  have hB1 : Below w.heap.size w w1 := below_thru hB0 hb
  have hs1 := hB1.size
  have x_d1 : Box w1 (w.heap.size) ([v1, v2]) := Box.below x_d0 hb
  have x_t1 : Box w1 (w.heap.size + 1) (V) := Box.below x_t0 hb
  have x_u1 : Box w1 (w.heap.size + 2) (U) := Box.below x_u0 hb
  have x_f1 : Box w1 (w.heap.size + 3) (F) := Box.below x_f0 hb
  clear hB0 hs0 x_d0 x_t0 x_u0 x_f0
  clear hb
  go_wp2_with (first
    | (refine wpList_load_box9 rfl _ _ rfl x_d1 rfl Try.underlying25 rfl SD.out ?_)
    | (refine wpList_load_box9 rfl _ _ rfl x_t1 rfl Try.underlying34 rfl SV.out ?_))
  refine (PA _ _ (HD.out.below hB1)).mono ?_
  rintro e w2 ⟨x1a, x2a, rfl, o1a, o2a, hb⟩
  have Ia : Hid (IsD w2 (.agg #[x1a, x2a]) asA da) := Lib.hid ⟨_, _, rfl, IsR.own o1a rfl rfl, IsR.own o2a rfl rfl⟩
  obtain ⟨p1a, n1a, rfl⟩ := own_slR o1a; obtain ⟨p2a, n2a, rfl⟩ := own_slR o2a
  have hB2 : Below w.heap.size w w2 := below_thru hB1 hb
  have hs2 := hB2.size
  have x_d2 : Box w2 (w.heap.size) ([v1, v2]) := Box.below x_d1 hb
  have x_t2 : Box w2 (w.heap.size + 1) (V) := Box.below x_t1 hb
  have x_u2 : Box w2 (w.heap.size + 2) (U) := Box.below x_u1 hb
  have x_f2 : Box w2 (w.heap.size + 3) (F) := Box.below x_f1 hb
  clear hB1 hs1 x_d1 x_t1 x_u1 x_f1
  clear hb
  clear o1a o2a
  have K_w2_2 : Below w2.heap.size w2 w2 := Below.refl _ _
  have d_a_d := (x_d2).lt
  have d_a_t := (x_t2).lt
  have d_a_u := (x_u2).lt
  have d_a_f := (x_f2).lt
  have d_a_0 := hs2
  go_upto_region 4 with (refine wpList_store_box (cs := [.slice p1a asA.length n1a, .slice p2a da.length n2a]) rfl _ _ _ rfl (Box.newc (l := id0) rfl rfl) rfl rfl (size_id12 _ _) rfl (one_id12 _ _ _ _ _ _) ?_; intro W2_0 hW2_0)
  have hN : Below w2.heap.size w2 W2_0 := (hW2_0.below _ _ (by omega) ((Below.refl _ w2).alloc (Nat.le_refl _) _))
  have x_a3 : Box W2_0 (w2.heap.size) ([.slice p1a asA.length n1a, .slice p2a da.length n2a]) := hW2_0.box
  have K_w2_3 : Below w2.heap.size w2 W2_0 := below_thru K_w2_2 hN
  clear K_w2_2
  have hB3 : Below w.heap.size w W2_0 := below_thru hB2 hN
  have hs3 := hB3.size
  have x_d3 : Box W2_0 (w.heap.size) ([v1, v2]) := Box.below x_d2 hN
  have x_t3 : Box W2_0 (w.heap.size + 1) (V) := Box.below x_t2 hN
  have x_u3 : Box W2_0 (w.heap.size + 2) (U) := Box.below x_u2 hN
  have x_f3 : Box W2_0 (w.heap.size + 3) (F) := Box.below x_f2 hN
  clear hB2 hs2 x_d2 x_t2 x_u2 x_f2
  clear hN hW2_0
  go_wp2_with (first
    | (refine wpList_load_box9 rfl _ _ rfl x_d3 rfl Try.underlying25 rfl SD.out ?_)
    | (refine wpList_load_box9 rfl _ _ rfl x_u3 rfl Try.underlying34 rfl SU.out ?_))
  refine (PB _ _ (HD.out.below hB3)).mono ?_
  rintro e w4 ⟨x1b, x2b, rfl, o1b, o2b, hb⟩
  have Ib : Hid (IsD w4 (.agg #[x1b, x2b]) bs db) := Lib.hid ⟨_, _, rfl, IsR.own o1b rfl rfl, IsR.own o2b rfl rfl⟩
  obtain ⟨p1b, n1b, rfl⟩ := own_slR o1b; obtain ⟨p2b, n2b, rfl⟩ := own_slR o2b
  have K_w2_4 : Below w2.heap.size w2 w4 := below_thru K_w2_3 hb
  clear K_w2_3
  have hB4 : Below w.heap.size w w4 := below_thru hB3 hb
  have hs4 := hB4.size
  have x_d4 : Box w4 (w.heap.size) ([v1, v2]) := Box.below x_d3 hb
  have x_t4 : Box w4 (w.heap.size + 1) (V) := Box.below x_t3 hb
  have x_u4 : Box w4 (w.heap.size + 2) (U) := Box.below x_u3 hb
  have x_f4 : Box w4 (w.heap.size + 3) (F) := Box.below x_f3 hb
  have x_a4 : Box w4 (w2.heap.size) ([.slice p1a asA.length n1a, .slice p2a da.length n2a]) := Box.below x_a3 hb
  clear hB3 hs3 x_d3 x_t3 x_u3 x_f3 x_a3
  clear hb
  clear o1b o2b
  have K_w4_4 : Below w4.heap.size w4 w4 := Below.refl _ _
  have d_b_d := (x_d4).lt
  have d_b_t := (x_t4).lt
  have d_b_u := (x_u4).lt
  have d_b_f := (x_f4).lt
  have d_b_a := (x_a4).lt
  have d_b_0 := hs4
  go_upto_region 5 with (refine wpList_store_box (cs := [.slice p1b bs.length n1b, .slice p2b db.length n2b]) rfl _ _ _ rfl (Box.newc (l := id0) rfl rfl) rfl rfl (size_id12 _ _) rfl (one_id12 _ _ _ _ _ _) ?_; intro W4_0 hW4_0)
  have hN : Below w4.heap.size w4 W4_0 := (hW4_0.below _ _ (by omega) ((Below.refl _ w4).alloc (Nat.le_refl _) _))
  have x_b5 : Box W4_0 (w4.heap.size) ([.slice p1b bs.length n1b, .slice p2b db.length n2b]) := hW4_0.box
  have K_w2_5 : Below w2.heap.size w2 W4_0 := below_thru K_w2_4 hN
  have K_w4_5 : Below w4.heap.size w4 W4_0 := below_thru K_w4_4 hN
  clear K_w2_4 K_w4_4
  have hB5 : Below w.heap.size w W4_0 := below_thru hB4 hN
  have hs5 := hB5.size
  have x_d5 : Box W4_0 (w.heap.size) ([v1, v2]) := Box.below x_d4 hN
  have x_t5 : Box W4_0 (w.heap.size + 1) (V) := Box.below x_t4 hN
  have x_u5 : Box W4_0 (w.heap.size + 2) (U) := Box.below x_u4 hN
  have x_f5 : Box W4_0 (w.heap.size + 3) (F) := Box.below x_f4 hN
  have x_a5 : Box W4_0 (w2.heap.size) ([.slice p1a asA.length n1a, .slice p2a da.length n2a]) := Box.below x_a4 hN
  clear hB4 hs4 x_d4 x_t4 x_u4 x_f4 x_a4
  clear hN hW4_0
  go_wp2_with fail
  refine (AL _).mono ?_
  rintro e w6 ⟨rfl, hb⟩
  have K_w2_6 : Below w2.heap.size w2 w6 := below_thru K_w2_5 hb
  have K_w4_6 : Below w4.heap.size w4 w6 := below_thru K_w4_5 hb
  clear K_w2_5 K_w4_5
  have hB6 : Below w.heap.size w w6 := below_thru hB5 hb
  have hs6 := hB6.size
  have x_d6 : Box w6 (w.heap.size) ([v1, v2]) := Box.below x_d5 hb
  have x_t6 : Box w6 (w.heap.size + 1) (V) := Box.below x_t5 hb
  have x_u6 : Box w6 (w.heap.size + 2) (U) := Box.below x_u5 hb
  have x_f6 : Box w6 (w.heap.size + 3) (F) := Box.below x_f5 hb
  have x_a6 : Box w6 (w2.heap.size) ([.slice p1a asA.length n1a, .slice p2a da.length n2a]) := Box.below x_a5 hb
  have x_b6 : Box w6 (w4.heap.size) ([.slice p1b bs.length n1b, .slice p2b db.length n2b]) := Box.below x_b5 hb
  clear hB5 hs5 x_d5 x_t5 x_u5 x_f5 x_a5 x_b5
  clear hb
  go_wp2_with fail
  go_returns
  exact ⟨rfl, hB6⟩

set_option maxRecDepth 100000 in
set_option maxHeartbeats 6400000 in
theorem order12_g {v : Value} {ts : List Tk} {cs : List Cmd} (t u : Tk) (f : Frm) {n m : Int} (hl : ts.length + cs.length ≤ 1000000000000000) (hg : FitD ts cs f) {asA bs : List Tk} {da db : List Cmd} {g : Int} (ha : PutT ts cs t asA da 0) (hb : PutT ts cs u bs db g) (he : g ≠ 0) (w : World) (h1 : IsD w v ts cs) : Calls Try.prog 7 #[v, .agg t.v.toArray, .agg u.v.toArray, .agg (mcell f).toArray, .int .u16 n, .int .u32 m] w fun e w' => e = .returned (.bool true) ∧ Below w.heap.size w w' := by
  have FT := fun (W : World) (x : Value) (h : IsD W x ts cs) => lfit12_is f hl (b := true) (⟨fun _ => hg, fun _ => rfl⟩) W h; have AL := fun W => alive12_is W
  have h180 := not_grt hg.1; have hc := hg.2.1
  have PA := fun (W : World) (x : Value) (h : IsD W x ts cs) => ptok_is t h180 ha W h; have PB := fun (W : World) (x : Value) (h : IsD W x ts cs) => ptok_is u h180 hb W h
  have d1 : (g == 0) = false := by simpa using he
  have d2 : (g != 0) = true := by simpa using he
  clear hc
  have HD := Lib.hid h1
  obtain ⟨v1, v2, rfl, g1, g2⟩ := id h1
  have SD := Lib.hid (size_id12 v1 v2)
  clear g1 g2 h1
  have SV := Lib.hid (size_tk t); have SU := Lib.hid (size_tk u); have SF := Lib.hid (size_frm f)
  obtain ⟨V, hV⟩ : ∃ X, t.v = X := ⟨_, rfl⟩
  rw [hV] at SV PA ⊢
  clear hV
  obtain ⟨U, hU⟩ : ∃ X, u.v = X := ⟨_, rfl⟩
  rw [hU] at SU PB ⊢
  clear hU
  obtain ⟨F, hF⟩ : ∃ X, mcell f = X := ⟨_, rfl⟩
  rw [hF] at SF FT ⊢
  clear hF
  clear hl hg ha hb he h180
  go_enter Try.func7, Try.ntmps7
  go_upto_region 1 with fail
  refine F_gen (F := fun W => Code.wp _ _ _ _ W) (J := fun W => Box W (w.heap.size) ([v1, v2]) ∧ Box W (w.heap.size + 1) (V) ∧ Box W (w.heap.size + 2) (U) ∧ Box W (w.heap.size + 3) (F) ∧ Below w.heap.size w W) (And.intro (Box.alloc (Box.alloc (Box.alloc (Box.newc rfl rfl) _) _) _) (And.intro (Box.alloc (Box.alloc (Box.newc rfl (by simp)) _) _) (And.intro (Box.alloc (Box.newc rfl (by simp)) _) (And.intro (Box.newc rfl (by simp)) (by go_grown))))) ?_
  intro w0 ⟨e_d, e_t, e_u, e_f, hB0⟩
  have hs0 := hB0.size
  have x_d0 := e_d; clear e_d
  have x_t0 := e_t; clear e_t
  have x_u0 := e_u; clear e_u
  have x_f0 := e_f; clear e_f
  go_wp2_with (first
    | (refine wpList_load_box9 rfl _ _ rfl x_d0 rfl Try.underlying25 rfl SD.out ?_)
    | (refine wpList_load_box9 rfl _ _ rfl x_f0 rfl Try.underlying47 rfl SF.out ?_))
  refine (FT _ _ (HD.out.below hB0)).mono ?_
  rintro e w1 ⟨rfl, hb⟩
  have hB1 : Below w.heap.size w w1 := below_thru hB0 hb
  have hs1 := hB1.size
  have x_d1 : Box w1 (w.heap.size) ([v1, v2]) := Box.below x_d0 hb
  have x_t1 : Box w1 (w.heap.size + 1) (V) := Box.below x_t0 hb
  have x_u1 : Box w1 (w.heap.size + 2) (U) := Box.below x_u0 hb
  have x_f1 : Box w1 (w.heap.size + 3) (F) := Box.below x_f0 hb
  clear hB0 hs0 x_d0 x_t0 x_u0 x_f0
  clear hb
  go_wp2_with (first
    | (refine wpList_load_box9 rfl _ _ rfl x_d1 rfl Try.underlying25 rfl SD.out ?_)
    | (refine wpList_load_box9 rfl _ _ rfl x_t1 rfl Try.underlying34 rfl SV.out ?_))
  refine (PA _ _ (HD.out.below hB1)).mono ?_
  rintro e w2 ⟨x1a, x2a, rfl, o1a, o2a, hb⟩
  have Ia : Hid (IsD w2 (.agg #[x1a, x2a]) asA da) := Lib.hid ⟨_, _, rfl, IsR.own o1a rfl rfl, IsR.own o2a rfl rfl⟩
  obtain ⟨p1a, n1a, rfl⟩ := own_slR o1a; obtain ⟨p2a, n2a, rfl⟩ := own_slR o2a
  have hB2 : Below w.heap.size w w2 := below_thru hB1 hb
  have hs2 := hB2.size
  have x_d2 : Box w2 (w.heap.size) ([v1, v2]) := Box.below x_d1 hb
  have x_t2 : Box w2 (w.heap.size + 1) (V) := Box.below x_t1 hb
  have x_u2 : Box w2 (w.heap.size + 2) (U) := Box.below x_u1 hb
  have x_f2 : Box w2 (w.heap.size + 3) (F) := Box.below x_f1 hb
  clear hB1 hs1 x_d1 x_t1 x_u1 x_f1
  clear hb
  clear o1a o2a
  have K_w2_2 : Below w2.heap.size w2 w2 := Below.refl _ _
  have d_a_d := (x_d2).lt
  have d_a_t := (x_t2).lt
  have d_a_u := (x_u2).lt
  have d_a_f := (x_f2).lt
  have d_a_0 := hs2
  go_upto_region 4 with (refine wpList_store_box (cs := [.slice p1a asA.length n1a, .slice p2a da.length n2a]) rfl _ _ _ rfl (Box.newc (l := id0) rfl rfl) rfl rfl (size_id12 _ _) rfl (one_id12 _ _ _ _ _ _) ?_; intro W2_0 hW2_0)
  have hN : Below w2.heap.size w2 W2_0 := (hW2_0.below _ _ (by omega) ((Below.refl _ w2).alloc (Nat.le_refl _) _))
  have x_a3 : Box W2_0 (w2.heap.size) ([.slice p1a asA.length n1a, .slice p2a da.length n2a]) := hW2_0.box
  have K_w2_3 : Below w2.heap.size w2 W2_0 := below_thru K_w2_2 hN
  clear K_w2_2
  have hB3 : Below w.heap.size w W2_0 := below_thru hB2 hN
  have hs3 := hB3.size
  have x_d3 : Box W2_0 (w.heap.size) ([v1, v2]) := Box.below x_d2 hN
  have x_t3 : Box W2_0 (w.heap.size + 1) (V) := Box.below x_t2 hN
  have x_u3 : Box W2_0 (w.heap.size + 2) (U) := Box.below x_u2 hN
  have x_f3 : Box W2_0 (w.heap.size + 3) (F) := Box.below x_f2 hN
  clear hB2 hs2 x_d2 x_t2 x_u2 x_f2
  clear hN hW2_0
  go_wp2_with (first
    | (refine wpList_load_box9 rfl _ _ rfl x_d3 rfl Try.underlying25 rfl SD.out ?_)
    | (refine wpList_load_box9 rfl _ _ rfl x_u3 rfl Try.underlying34 rfl SU.out ?_))
  refine (PB _ _ (HD.out.below hB3)).mono ?_
  rintro e w4 ⟨x1b, x2b, rfl, o1b, o2b, hb⟩
  have Ib : Hid (IsD w4 (.agg #[x1b, x2b]) bs db) := Lib.hid ⟨_, _, rfl, IsR.own o1b rfl rfl, IsR.own o2b rfl rfl⟩
  obtain ⟨p1b, n1b, rfl⟩ := own_slR o1b; obtain ⟨p2b, n2b, rfl⟩ := own_slR o2b
  have K_w2_4 : Below w2.heap.size w2 w4 := below_thru K_w2_3 hb
  clear K_w2_3
  have hB4 : Below w.heap.size w w4 := below_thru hB3 hb
  have hs4 := hB4.size
  have x_d4 : Box w4 (w.heap.size) ([v1, v2]) := Box.below x_d3 hb
  have x_t4 : Box w4 (w.heap.size + 1) (V) := Box.below x_t3 hb
  have x_u4 : Box w4 (w.heap.size + 2) (U) := Box.below x_u3 hb
  have x_f4 : Box w4 (w.heap.size + 3) (F) := Box.below x_f3 hb
  have x_a4 : Box w4 (w2.heap.size) ([.slice p1a asA.length n1a, .slice p2a da.length n2a]) := Box.below x_a3 hb
  clear hB3 hs3 x_d3 x_t3 x_u3 x_f3 x_a3
  clear hb
  clear o1b o2b
  have K_w4_4 : Below w4.heap.size w4 w4 := Below.refl _ _
  have d_b_d := (x_d4).lt
  have d_b_t := (x_t4).lt
  have d_b_u := (x_u4).lt
  have d_b_f := (x_f4).lt
  have d_b_a := (x_a4).lt
  have d_b_0 := hs4
  go_upto_region 5 with (refine wpList_store_box (cs := [.slice p1b bs.length n1b, .slice p2b db.length n2b]) rfl _ _ _ rfl (Box.newc (l := id0) rfl rfl) rfl rfl (size_id12 _ _) rfl (one_id12 _ _ _ _ _ _) ?_; intro W4_0 hW4_0)
  have hN : Below w4.heap.size w4 W4_0 := (hW4_0.below _ _ (by omega) ((Below.refl _ w4).alloc (Nat.le_refl _) _))
  have x_b5 : Box W4_0 (w4.heap.size) ([.slice p1b bs.length n1b, .slice p2b db.length n2b]) := hW4_0.box
  have K_w2_5 : Below w2.heap.size w2 W4_0 := below_thru K_w2_4 hN
  have K_w4_5 : Below w4.heap.size w4 W4_0 := below_thru K_w4_4 hN
  clear K_w2_4 K_w4_4
  have hB5 : Below w.heap.size w W4_0 := below_thru hB4 hN
  have hs5 := hB5.size
  have x_d5 : Box W4_0 (w.heap.size) ([v1, v2]) := Box.below x_d4 hN
  have x_t5 : Box W4_0 (w.heap.size + 1) (V) := Box.below x_t4 hN
  have x_u5 : Box W4_0 (w.heap.size + 2) (U) := Box.below x_u4 hN
  have x_f5 : Box W4_0 (w.heap.size + 3) (F) := Box.below x_f4 hN
  have x_a5 : Box W4_0 (w2.heap.size) ([.slice p1a asA.length n1a, .slice p2a da.length n2a]) := Box.below x_a4 hN
  clear hB4 hs4 x_d4 x_t4 x_u4 x_f4 x_a4
  clear hN hW4_0
  go_wp2_with fail
  refine (AL _).mono ?_
  rintro e w6 ⟨rfl, hb⟩
  have K_w2_6 : Below w2.heap.size w2 w6 := below_thru K_w2_5 hb
  have K_w4_6 : Below w4.heap.size w4 w6 := below_thru K_w4_5 hb
  clear K_w2_5 K_w4_5
  have hB6 : Below w.heap.size w w6 := below_thru hB5 hb
  have hs6 := hB6.size
  have x_d6 : Box w6 (w.heap.size) ([v1, v2]) := Box.below x_d5 hb
  have x_t6 : Box w6 (w.heap.size + 1) (V) := Box.below x_t5 hb
  have x_u6 : Box w6 (w.heap.size + 2) (U) := Box.below x_u5 hb
  have x_f6 : Box w6 (w.heap.size + 3) (F) := Box.below x_f5 hb
  have x_a6 : Box w6 (w2.heap.size) ([.slice p1a asA.length n1a, .slice p2a da.length n2a]) := Box.below x_a5 hb
  have x_b6 : Box w6 (w4.heap.size) ([.slice p1b bs.length n1b, .slice p2b db.length n2b]) := Box.below x_b5 hb
  clear hB5 hs5 x_d5 x_t5 x_u5 x_f5 x_a5 x_b5
  clear hb
  go_wp2_with fail
  go_returns
  exact ⟨rfl, hB6⟩

set_option maxRecDepth 100000 in
set_option maxHeartbeats 6400000 in
theorem order12_0r {v : Value} {ts : List Tk} {cs : List Cmd} (t u : Tk) (f : Frm) {n m : Int} (hl : ts.length + cs.length ≤ 1000000000000000) (hg : FitD ts cs f) {asA bs xs ys : List Tk} (ha : PutT ts cs t asA cs 0) (hb : PutT ts cs u bs cs 0) (hx : PutT asA cs u xs cs 0) (hy : PutT bs cs t ys cs 0) (hk : f.kd = 1) (hn : 0 ≤ n ∧ n ≤ 65535) (hm : 0 ≤ m ∧ m ≤ 4294967295) (w : World) (h1 : IsD w v ts cs) : Calls Try.prog 7 #[v, .agg t.v.toArray, .agg u.v.toArray, .agg (mcell f).toArray, .int .u16 n, .int .u32 m] w fun e w' => e = .returned (.bool true) ∧ Below w.heap.size w w' := by
  have FT := fun (W : World) (x : Value) (h : IsD W x ts cs) => lfit12_is f hl (b := true) (⟨fun _ => hg, fun _ => rfl⟩) W h; have AL := fun W => alive12_is W
  have h180 := not_grt hg.1; have hc := hg.2.1
  have PA := fun (W : World) (x : Value) (h : IsD W x ts cs) => ptok_is t h180 ha W h; have PB := fun (W : World) (x : Value) (h : IsD W x ts cs) => ptok_is u h180 hb W h
  have ka := (ha.then12 hc).1; have kb := (hb.then12 hc).1; have za := ka.z12.1; have zb := kb.z12.1
  have PX := fun (W : World) (x : Value) (h : IsD W x asA cs) => ptok_is u (by omega) hx W h; have PY := fun (W : World) (x : Value) (h : IsD W x bs cs) => ptok_is t (by omega) hy W h
  have kx := (hx.then12 ka).1; have ky := (hy.then12 kb).1; have om := ((PutT.order12 hc ha hb hx hy).2 rfl).2; have zx := kx.z12.1; have zy := ky.z12.1
  obtain ⟨b, hbb⟩ := ex_bool12 (Acc xs cs f)
  have AX := fun (W : World) (x : Value) (h : IsD W x xs cs) => lacc12_is f (by omega) hbb W h; have AY := fun (W : World) (x : Value) (h : IsD W x ys cs) => lacc12_is f (by omega) (hbb.trans (acc_order12 kx ky om)) W h
  have nb : (b != b) = false := by simp
  have eb : (b == b) = true := by simp
  have v0 : (mcell f)[0]? = some (.int .u8 1) := by rw [← hk]; rfl
  obtain ⟨c, hcc⟩ := ex_bool12 (Acc ts cs f)
  have AD := fun (W : World) (x : Value) (h : IsD W x ts cs) => lacc12_is f h180 hcc W h; have AQ := fun (W : World) (x : Value) (h : IsD W x ts cs) => lacc12_is (Frm.req (f.r.moved12 n m hn hm)) h180 (hcc.trans (acc_moved12 hn hm hk hg.2.2).symm) W h
  have RQ := fun W => lreq12_is (f.r.moved12 n m hn hm) W
  rw [show (f.r.moved12 n m hn hm).tk = f.r.tk from rfl, show (f.r.moved12 n m hn hm).ep = n from rfl, show (f.r.moved12 n m hn hm).co = m from rfl] at RQ
  have DT : Hid ((mcell f).drop 1 = f.r.tk.v ++ (.int .u16 f.r.ep :: .int .u32 f.r.co :: ccell f.c)) := Lib.hid (mcell_t f); have SP := Lib.hid (size_tk f.r.tk)
  have nc : (c != c) = false := by simp
  have ec : (c == c) = true := by simp
  obtain ⟨G, hG⟩ : ∃ X, mcell (Frm.req (f.r.moved12 n m hn hm)) = X := ⟨_, rfl⟩
  rw [hG] at RQ AQ
  clear hG
  obtain ⟨P, hP⟩ : ∃ X, f.r.tk.v = X := ⟨_, rfl⟩
  rw [hP] at RQ DT SP
  clear hP
  obtain ⟨R, hR⟩ : ∃ X, (Value.int .u16 f.r.ep :: .int .u32 f.r.co :: ccell f.c) = X := ⟨_, rfl⟩
  rw [hR] at DT
  clear hR
  have HD := Lib.hid h1
  obtain ⟨v1, v2, rfl, g1, g2⟩ := id h1
  have SD := Lib.hid (size_id12 v1 v2)
  clear g1 g2 h1
  have SV := Lib.hid (size_tk t); have SU := Lib.hid (size_tk u); have SF := Lib.hid (size_frm f)
  obtain ⟨V, hV⟩ : ∃ X, t.v = X := ⟨_, rfl⟩
  rw [hV] at SV PA PY ⊢
  clear hV
  obtain ⟨U, hU⟩ : ∃ X, u.v = X := ⟨_, rfl⟩
  rw [hU] at SU PB PX ⊢
  clear hU
  obtain ⟨F, hF⟩ : ∃ X, mcell f = X := ⟨_, rfl⟩
  rw [hF] at SF FT AX AY v0 AD DT ⊢
  clear hF
  clear hl hg ha hb hx hy hk h180 hc ka kb za zb kx ky om zx zy hbb hn hm hcc
  go_enter Try.func7, Try.ntmps7
  go_upto_region 1 with fail
  refine F_gen (F := fun W => Code.wp _ _ _ _ W) (J := fun W => Box W (w.heap.size) ([v1, v2]) ∧ Box W (w.heap.size + 1) (V) ∧ Box W (w.heap.size + 2) (U) ∧ Box W (w.heap.size + 3) (F) ∧ Below w.heap.size w W) (And.intro (Box.alloc (Box.alloc (Box.alloc (Box.newc rfl rfl) _) _) _) (And.intro (Box.alloc (Box.alloc (Box.newc rfl (by simp)) _) _) (And.intro (Box.alloc (Box.newc rfl (by simp)) _) (And.intro (Box.newc rfl (by simp)) (by go_grown))))) ?_
  intro w0 ⟨e_d, e_t, e_u, e_f, hB0⟩
  have hs0 := hB0.size
  have x_d0 := e_d; clear e_d
  have x_t0 := e_t; clear e_t
  have x_u0 := e_u; clear e_u
  have x_f0 := e_f; clear e_f
  go_wp2_with (first
    | (refine wpList_load_box9 rfl _ _ rfl x_d0 rfl Try.underlying25 rfl SD.out ?_)
    | (refine wpList_load_box9 rfl _ _ rfl x_f0 rfl Try.underlying47 rfl SF.out ?_))
  refine (FT _ _ (HD.out.below hB0)).mono ?_
  rintro e w1 ⟨rfl, hb⟩
  have hB1 : Below w.heap.size w w1 := below_thru hB0 hb
  have hs1 := hB1.size
  have x_d1 : Box w1 (w.heap.size) ([v1, v2]) := Box.below x_d0 hb
  have x_t1 : Box w1 (w.heap.size + 1) (V) := Box.below x_t0 hb
  have x_u1 : Box w1 (w.heap.size + 2) (U) := Box.below x_u0 hb
  have x_f1 : Box w1 (w.heap.size + 3) (F) := Box.below x_f0 hb
  clear hB0 hs0 x_d0 x_t0 x_u0 x_f0
  clear hb
  go_wp2_with (first
    | (refine wpList_load_box9 rfl _ _ rfl x_d1 rfl Try.underlying25 rfl SD.out ?_)
    | (refine wpList_load_box9 rfl _ _ rfl x_t1 rfl Try.underlying34 rfl SV.out ?_))
  refine (PA _ _ (HD.out.below hB1)).mono ?_
  rintro e w2 ⟨x1a, x2a, rfl, o1a, o2a, hb⟩
  have Ia : Hid (IsD w2 (.agg #[x1a, x2a]) asA cs) := Lib.hid ⟨_, _, rfl, IsR.own o1a rfl rfl, IsR.own o2a rfl rfl⟩
  obtain ⟨p1a, n1a, rfl⟩ := own_slR o1a; obtain ⟨p2a, n2a, rfl⟩ := own_slR o2a
  have hB2 : Below w.heap.size w w2 := below_thru hB1 hb
  have hs2 := hB2.size
  have x_d2 : Box w2 (w.heap.size) ([v1, v2]) := Box.below x_d1 hb
  have x_t2 : Box w2 (w.heap.size + 1) (V) := Box.below x_t1 hb
  have x_u2 : Box w2 (w.heap.size + 2) (U) := Box.below x_u1 hb
  have x_f2 : Box w2 (w.heap.size + 3) (F) := Box.below x_f1 hb
  clear hB1 hs1 x_d1 x_t1 x_u1 x_f1
  clear hb
  clear o1a o2a
  have K_w2_2 : Below w2.heap.size w2 w2 := Below.refl _ _
  have d_a_d := (x_d2).lt
  have d_a_t := (x_t2).lt
  have d_a_u := (x_u2).lt
  have d_a_f := (x_f2).lt
  have d_a_0 := hs2
  go_upto_region 4 with (refine wpList_store_box (cs := [.slice p1a asA.length n1a, .slice p2a cs.length n2a]) rfl _ _ _ rfl (Box.newc (l := id0) rfl rfl) rfl rfl (size_id12 _ _) rfl (one_id12 _ _ _ _ _ _) ?_; intro W2_0 hW2_0)
  have hN : Below w2.heap.size w2 W2_0 := (hW2_0.below _ _ (by omega) ((Below.refl _ w2).alloc (Nat.le_refl _) _))
  have x_a3 : Box W2_0 (w2.heap.size) ([.slice p1a asA.length n1a, .slice p2a cs.length n2a]) := hW2_0.box
  have K_w2_3 : Below w2.heap.size w2 W2_0 := below_thru K_w2_2 hN
  clear K_w2_2
  have hB3 : Below w.heap.size w W2_0 := below_thru hB2 hN
  have hs3 := hB3.size
  have x_d3 : Box W2_0 (w.heap.size) ([v1, v2]) := Box.below x_d2 hN
  have x_t3 : Box W2_0 (w.heap.size + 1) (V) := Box.below x_t2 hN
  have x_u3 : Box W2_0 (w.heap.size + 2) (U) := Box.below x_u2 hN
  have x_f3 : Box W2_0 (w.heap.size + 3) (F) := Box.below x_f2 hN
  clear hB2 hs2 x_d2 x_t2 x_u2 x_f2
  clear hN hW2_0
  go_wp2_with (first
    | (refine wpList_load_box9 rfl _ _ rfl x_d3 rfl Try.underlying25 rfl SD.out ?_)
    | (refine wpList_load_box9 rfl _ _ rfl x_u3 rfl Try.underlying34 rfl SU.out ?_))
  refine (PB _ _ (HD.out.below hB3)).mono ?_
  rintro e w4 ⟨x1b, x2b, rfl, o1b, o2b, hb⟩
  have Ib : Hid (IsD w4 (.agg #[x1b, x2b]) bs cs) := Lib.hid ⟨_, _, rfl, IsR.own o1b rfl rfl, IsR.own o2b rfl rfl⟩
  obtain ⟨p1b, n1b, rfl⟩ := own_slR o1b; obtain ⟨p2b, n2b, rfl⟩ := own_slR o2b
  have K_w2_4 : Below w2.heap.size w2 w4 := below_thru K_w2_3 hb
  clear K_w2_3
  have hB4 : Below w.heap.size w w4 := below_thru hB3 hb
  have hs4 := hB4.size
  have x_d4 : Box w4 (w.heap.size) ([v1, v2]) := Box.below x_d3 hb
  have x_t4 : Box w4 (w.heap.size + 1) (V) := Box.below x_t3 hb
  have x_u4 : Box w4 (w.heap.size + 2) (U) := Box.below x_u3 hb
  have x_f4 : Box w4 (w.heap.size + 3) (F) := Box.below x_f3 hb
  have x_a4 : Box w4 (w2.heap.size) ([.slice p1a asA.length n1a, .slice p2a cs.length n2a]) := Box.below x_a3 hb
  clear hB3 hs3 x_d3 x_t3 x_u3 x_f3 x_a3
  clear hb
  clear o1b o2b
  have K_w4_4 : Below w4.heap.size w4 w4 := Below.refl _ _
  have d_b_d := (x_d4).lt
  have d_b_t := (x_t4).lt
  have d_b_u := (x_u4).lt
  have d_b_f := (x_f4).lt
  have d_b_a := (x_a4).lt
  have d_b_0 := hs4
  go_upto_region 5 with (refine wpList_store_box (cs := [.slice p1b bs.length n1b, .slice p2b cs.length n2b]) rfl _ _ _ rfl (Box.newc (l := id0) rfl rfl) rfl rfl (size_id12 _ _) rfl (one_id12 _ _ _ _ _ _) ?_; intro W4_0 hW4_0)
  have hN : Below w4.heap.size w4 W4_0 := (hW4_0.below _ _ (by omega) ((Below.refl _ w4).alloc (Nat.le_refl _) _))
  have x_b5 : Box W4_0 (w4.heap.size) ([.slice p1b bs.length n1b, .slice p2b cs.length n2b]) := hW4_0.box
  have K_w2_5 : Below w2.heap.size w2 W4_0 := below_thru K_w2_4 hN
  have K_w4_5 : Below w4.heap.size w4 W4_0 := below_thru K_w4_4 hN
  clear K_w2_4 K_w4_4
  have hB5 : Below w.heap.size w W4_0 := below_thru hB4 hN
  have hs5 := hB5.size
  have x_d5 : Box W4_0 (w.heap.size) ([v1, v2]) := Box.below x_d4 hN
  have x_t5 : Box W4_0 (w.heap.size + 1) (V) := Box.below x_t4 hN
  have x_u5 : Box W4_0 (w.heap.size + 2) (U) := Box.below x_u4 hN
  have x_f5 : Box W4_0 (w.heap.size + 3) (F) := Box.below x_f4 hN
  have x_a5 : Box W4_0 (w2.heap.size) ([.slice p1a asA.length n1a, .slice p2a cs.length n2a]) := Box.below x_a4 hN
  clear hB4 hs4 x_d4 x_t4 x_u4 x_f4 x_a4
  clear hN hW4_0
  go_wp2_with (first
    | (refine wpList_load_box9 rfl _ _ rfl x_a5 rfl Try.underlying25 rfl (size_id12 _ _) ?_)
    | (refine wpList_load_box9 rfl _ _ rfl x_u5 rfl Try.underlying34 rfl SU.out ?_))
  refine (PX _ _ (Ia.out.below K_w2_5)).mono ?_
  rintro e w6 ⟨x1x, x2x, rfl, o1x, o2x, hb⟩
  have Ix : Hid (IsD w6 (.agg #[x1x, x2x]) xs cs) := Lib.hid ⟨_, _, rfl, IsR.own o1x rfl rfl, IsR.own o2x rfl rfl⟩
  obtain ⟨p1x, n1x, rfl⟩ := own_slR o1x; obtain ⟨p2x, n2x, rfl⟩ := own_slR o2x
  have K_w2_6 : Below w2.heap.size w2 w6 := below_thru K_w2_5 hb
  have K_w4_6 : Below w4.heap.size w4 w6 := below_thru K_w4_5 hb
  clear K_w2_5 K_w4_5
  have hB6 : Below w.heap.size w w6 := below_thru hB5 hb
  have hs6 := hB6.size
  have x_d6 : Box w6 (w.heap.size) ([v1, v2]) := Box.below x_d5 hb
  have x_t6 : Box w6 (w.heap.size + 1) (V) := Box.below x_t5 hb
  have x_u6 : Box w6 (w.heap.size + 2) (U) := Box.below x_u5 hb
  have x_f6 : Box w6 (w.heap.size + 3) (F) := Box.below x_f5 hb
  have x_a6 : Box w6 (w2.heap.size) ([.slice p1a asA.length n1a, .slice p2a cs.length n2a]) := Box.below x_a5 hb
  have x_b6 : Box w6 (w4.heap.size) ([.slice p1b bs.length n1b, .slice p2b cs.length n2b]) := Box.below x_b5 hb
  clear hB5 hs5 x_d5 x_t5 x_u5 x_f5 x_a5 x_b5
  clear hb
  clear o1x o2x
  have K_w6_6 : Below w6.heap.size w6 w6 := Below.refl _ _
  have d_x_d := (x_d6).lt
  have d_x_t := (x_t6).lt
  have d_x_u := (x_u6).lt
  have d_x_f := (x_f6).lt
  have d_x_a := (x_a6).lt
  have d_x_b := (x_b6).lt
  have d_x_0 := hs6
  go_upto_region 8 with (refine wpList_store_box (cs := [.slice p1x xs.length n1x, .slice p2x cs.length n2x]) rfl _ _ _ rfl (Box.newc (l := id0) rfl rfl) rfl rfl (size_id12 _ _) rfl (one_id12 _ _ _ _ _ _) ?_; intro W6_0 hW6_0)
  have hN : Below w6.heap.size w6 W6_0 := (hW6_0.below _ _ (by omega) ((Below.refl _ w6).alloc (Nat.le_refl _) _))
  have x_x7 : Box W6_0 (w6.heap.size) ([.slice p1x xs.length n1x, .slice p2x cs.length n2x]) := hW6_0.box
  have K_w2_7 : Below w2.heap.size w2 W6_0 := below_thru K_w2_6 hN
  have K_w4_7 : Below w4.heap.size w4 W6_0 := below_thru K_w4_6 hN
  have K_w6_7 : Below w6.heap.size w6 W6_0 := below_thru K_w6_6 hN
  clear K_w2_6 K_w4_6 K_w6_6
  have hB7 : Below w.heap.size w W6_0 := below_thru hB6 hN
  have hs7 := hB7.size
  have x_d7 : Box W6_0 (w.heap.size) ([v1, v2]) := Box.below x_d6 hN
  have x_t7 : Box W6_0 (w.heap.size + 1) (V) := Box.below x_t6 hN
  have x_u7 : Box W6_0 (w.heap.size + 2) (U) := Box.below x_u6 hN
  have x_f7 : Box W6_0 (w.heap.size + 3) (F) := Box.below x_f6 hN
  have x_a7 : Box W6_0 (w2.heap.size) ([.slice p1a asA.length n1a, .slice p2a cs.length n2a]) := Box.below x_a6 hN
  have x_b7 : Box W6_0 (w4.heap.size) ([.slice p1b bs.length n1b, .slice p2b cs.length n2b]) := Box.below x_b6 hN
  clear hB6 hs6 x_d6 x_t6 x_u6 x_f6 x_a6 x_b6
  clear hN hW6_0
  clear K_w2_7
  clear x_a7
  clear x_u7
  clear Ia
  go_wp2_with (first
    | (refine wpList_load_box9 rfl _ _ rfl x_b7 rfl Try.underlying25 rfl (size_id12 _ _) ?_)
    | (refine wpList_load_box9 rfl _ _ rfl x_t7 rfl Try.underlying34 rfl SV.out ?_))
  refine (PY _ _ (Ib.out.below K_w4_7)).mono ?_
  rintro e w8 ⟨x1y, x2y, rfl, o1y, o2y, hb⟩
  have Iy : Hid (IsD w8 (.agg #[x1y, x2y]) ys cs) := Lib.hid ⟨_, _, rfl, IsR.own o1y rfl rfl, IsR.own o2y rfl rfl⟩
  obtain ⟨p1y, n1y, rfl⟩ := own_slR o1y; obtain ⟨p2y, n2y, rfl⟩ := own_slR o2y
  have K_w4_8 : Below w4.heap.size w4 w8 := below_thru K_w4_7 hb
  have K_w6_8 : Below w6.heap.size w6 w8 := below_thru K_w6_7 hb
  clear K_w4_7 K_w6_7
  have hB8 : Below w.heap.size w w8 := below_thru hB7 hb
  have hs8 := hB8.size
  have x_d8 : Box w8 (w.heap.size) ([v1, v2]) := Box.below x_d7 hb
  have x_t8 : Box w8 (w.heap.size + 1) (V) := Box.below x_t7 hb
  have x_f8 : Box w8 (w.heap.size + 3) (F) := Box.below x_f7 hb
  have x_b8 : Box w8 (w4.heap.size) ([.slice p1b bs.length n1b, .slice p2b cs.length n2b]) := Box.below x_b7 hb
  have x_x8 : Box w8 (w6.heap.size) ([.slice p1x xs.length n1x, .slice p2x cs.length n2x]) := Box.below x_x7 hb
  clear hB7 hs7 x_d7 x_t7 x_f7 x_b7 x_x7
  clear hb
  clear o1y o2y
  have K_w8_8 : Below w8.heap.size w8 w8 := Below.refl _ _
  have d_y_d := (x_d8).lt
  have d_y_t := (x_t8).lt
  have d_y_f := (x_f8).lt
  have d_y_b := (x_b8).lt
  have d_y_x := (x_x8).lt
  have d_y_0 := hs8
  go_upto_region 9 with (refine wpList_store_box (cs := [.slice p1y ys.length n1y, .slice p2y cs.length n2y]) rfl _ _ _ rfl (Box.newc (l := id0) rfl rfl) rfl rfl (size_id12 _ _) rfl (one_id12 _ _ _ _ _ _) ?_; intro W8_0 hW8_0)
  have hN : Below w8.heap.size w8 W8_0 := (hW8_0.below _ _ (by omega) ((Below.refl _ w8).alloc (Nat.le_refl _) _))
  have x_y9 : Box W8_0 (w8.heap.size) ([.slice p1y ys.length n1y, .slice p2y cs.length n2y]) := hW8_0.box
  have K_w4_9 : Below w4.heap.size w4 W8_0 := below_thru K_w4_8 hN
  have K_w6_9 : Below w6.heap.size w6 W8_0 := below_thru K_w6_8 hN
  have K_w8_9 : Below w8.heap.size w8 W8_0 := below_thru K_w8_8 hN
  clear K_w4_8 K_w6_8 K_w8_8
  have hB9 : Below w.heap.size w W8_0 := below_thru hB8 hN
  have hs9 := hB9.size
  have x_d9 : Box W8_0 (w.heap.size) ([v1, v2]) := Box.below x_d8 hN
  have x_t9 : Box W8_0 (w.heap.size + 1) (V) := Box.below x_t8 hN
  have x_f9 : Box W8_0 (w.heap.size + 3) (F) := Box.below x_f8 hN
  have x_b9 : Box W8_0 (w4.heap.size) ([.slice p1b bs.length n1b, .slice p2b cs.length n2b]) := Box.below x_b8 hN
  have x_x9 : Box W8_0 (w6.heap.size) ([.slice p1x xs.length n1x, .slice p2x cs.length n2x]) := Box.below x_x8 hN
  clear hB8 hs8 x_d8 x_t8 x_f8 x_b8 x_x8
  clear hN hW8_0
  clear K_w4_9
  clear x_b9
  clear x_t9
  clear Ib
  go_upto_region 11 with fail
  refine wp_region_held_drew (S := fun W => Box W (w.heap.size) ([v1, v2]) ∧ Box W (w.heap.size + 3) (F) ∧ Box W (w6.heap.size) ([.slice p1x xs.length n1x, .slice p2x cs.length n2x]) ∧ Box W (w8.heap.size) ([.slice p1y ys.length n1y, .slice p2y cs.length n2y])) (by kernel_rfl) (And.intro (x_d9).drew (And.intro (x_f9).drew (And.intro (x_x9).drew (x_y9).drew))) (fun _ => ?_)
  refine F_drew (F := fun W => wpAnyH _ _ _ _ _ _ _ _ W) ?_
  intro Wp0 hbp0
  clear hs9
  have x_d_p0 : Box Wp0 (w.heap.size) ([v1, v2]) := Box.below x_d9 hbp0
  have x_f_p0 : Box Wp0 (w.heap.size + 3) (F) := Box.below x_f9 hbp0
  have x_x_p0 : Box Wp0 (w6.heap.size) ([.slice p1x xs.length n1x, .slice p2x cs.length n2x]) := Box.below x_x9 hbp0
  have x_y_p0 : Box Wp0 (w8.heap.size) ([.slice p1y ys.length n1y, .slice p2y cs.length n2y]) := Box.below x_y9 hbp0
  have Bp0 := below_thru hB9 hbp0
  have K_w6_p0 := below_thru K_w6_9 hbp0
  have K_w8_p0 := below_thru K_w8_9 hbp0
  clear x_d9 x_f9 x_x9 x_y9 hB9 K_w6_9 K_w8_9 hbp0
  refine takeH 0 60 (v := ?vp0_1) rfl (by rfl) (by kernel_rfl) (by kernel_rfl) (by kernel_rfl) (fun _ _ _ h => h) (Or.inl ⟨by rfl, ?_⟩) ((And.intro x_d_p0 (And.intro x_f_p0 (And.intro x_x_p0 x_y_p0)))) ?_
  rotate_left
  · intro wq hSq
    go_simp
    exact rfl
  try simp only [Act.put, List.setIfInBounds_toArray, List.set_cons_zero, List.set_cons_succ]
  refine takeH 1 61 (v := ?vp1_2) rfl (by rfl) (by kernel_rfl) (by kernel_rfl) (by kernel_rfl) (fun _ _ _ h => h) (Or.inl ⟨by rfl, ?_⟩) ((And.intro x_d_p0 (And.intro x_f_p0 (And.intro x_x_p0 x_y_p0)))) ?_
  rotate_left
  · intro wq hSq
    go_simp
    exact rfl
  try simp only [Act.put, List.setIfInBounds_toArray, List.set_cons_zero, List.set_cons_succ]
  refine takeH 2 62 (v := ?vp2_3) rfl (by rfl) (by kernel_rfl) (by kernel_rfl) (by kernel_rfl) (fun _ _ _ h => h) (Or.inl ⟨by rfl, ?_⟩) ((And.intro x_d_p0 (And.intro x_f_p0 (And.intro x_x_p0 x_y_p0)))) ?_
  rotate_left
  · intro wq hSq
    go_simp
    exact rfl
  try simp only [Act.put, List.setIfInBounds_toArray, List.set_cons_zero, List.set_cons_succ]
  refine takeH 3 63 (v := .agg ([.slice p1x xs.length n1x, .slice p2x cs.length n2x]).toArray) rfl (by rfl) (by kernel_rfl) (by kernel_rfl) (by kernel_rfl) (fun _ _ _ h => h) (yieldsIf_load_mid (by rfl) _ _ rfl _ _ rfl ([.slice p1x xs.length n1x, .slice p2x cs.length n2x]) _ (fun wq hq => Box.range (hq.2.2.1)) Try.underlying25 rfl (size_id12 _ _)) ((And.intro x_d_p0 (And.intro x_f_p0 (And.intro x_x_p0 x_y_p0)))) ?_
  try simp only [Act.put, List.setIfInBounds_toArray, List.set_cons_zero, List.set_cons_succ]
  refine takeH 4 64 (v := .agg (F).toArray) rfl (by rfl) (by kernel_rfl) (by kernel_rfl) (by kernel_rfl) (fun _ _ _ h => h) (yieldsIf_load_mid (by rfl) _ _ rfl _ _ rfl (F) _ (fun wq hq => Box.range (hq.2.1)) Try.underlying47 rfl SF.out) ((And.intro x_d_p0 (And.intro x_f_p0 (And.intro x_x_p0 x_y_p0)))) ?_
  try simp only [Act.put, List.setIfInBounds_toArray, List.set_cons_zero, List.set_cons_succ]
  refine takeH 6 66 (v := .agg ([.slice p1y ys.length n1y, .slice p2y cs.length n2y]).toArray) rfl (by rfl) (by kernel_rfl) (by kernel_rfl) (by kernel_rfl) (fun _ _ _ h => h) (yieldsIf_load_mid (by rfl) _ _ rfl _ _ rfl ([.slice p1y ys.length n1y, .slice p2y cs.length n2y]) _ (fun wq hq => Box.range (hq.2.2.2)) Try.underlying25 rfl (size_id12 _ _)) ((And.intro x_d_p0 (And.intro x_f_p0 (And.intro x_x_p0 x_y_p0)))) ?_
  try simp only [Act.put, List.setIfInBounds_toArray, List.set_cons_zero, List.set_cons_succ]
  refine takeH 7 67 (v := .agg (F).toArray) rfl (by rfl) (by kernel_rfl) (by kernel_rfl) (by kernel_rfl) (fun _ _ _ h => h) (yieldsIf_load_mid (by rfl) _ _ rfl _ _ rfl (F) _ (fun wq hq => Box.range (hq.2.1)) Try.underlying47 rfl SF.out) ((And.intro x_d_p0 (And.intro x_f_p0 (And.intro x_x_p0 x_y_p0)))) ?_
  try simp only [Act.put, List.setIfInBounds_toArray, List.set_cons_zero, List.set_cons_succ]
  refine wpAnyH_ready (rs := [5]) (by kernel_rfl) (by simp) (AllReadyH.cons rfl (fun K hK => ?_) AllReadyH.nil)
  go_simp
  refine (AX _ _ (Ix.out.below K_w6_p0)).mono ?_
  rintro e Wp4 ⟨rfl, hbp4⟩
  have x_d_p4 : Box Wp4 (w.heap.size) ([v1, v2]) := Box.below x_d_p0 hbp4
  have x_f_p4 : Box Wp4 (w.heap.size + 3) (F) := Box.below x_f_p0 hbp4
  have x_x_p4 : Box Wp4 (w6.heap.size) ([.slice p1x xs.length n1x, .slice p2x cs.length n2x]) := Box.below x_x_p0 hbp4
  have x_y_p4 : Box Wp4 (w8.heap.size) ([.slice p1y ys.length n1y, .slice p2y cs.length n2y]) := Box.below x_y_p0 hbp4
  have Bp4 := below_thru Bp0 hbp4
  have K_w6_p4 := below_thru K_w6_p0 hbp4
  have K_w8_p4 := below_thru K_w8_p0 hbp4
  clear x_d_p0 x_f_p0 x_x_p0 x_y_p0 Bp0 K_w6_p0 K_w8_p0 hbp4
  refine hK.out _ _ (And.intro x_d_p4 (And.intro x_f_p4 (And.intro x_x_p4 x_y_p4))) (fun _ => ?_); clear hK K
  refine wpAnyH_ready (rs := [8]) (by kernel_rfl) (by simp) (AllReadyH.cons rfl (fun K hK => ?_) AllReadyH.nil)
  go_simp
  refine (AY _ _ (Iy.out.below K_w8_p4)).mono ?_
  rintro e Wp5 ⟨rfl, hbp5⟩
  have x_d_p5 : Box Wp5 (w.heap.size) ([v1, v2]) := Box.below x_d_p4 hbp5
  have x_f_p5 : Box Wp5 (w.heap.size + 3) (F) := Box.below x_f_p4 hbp5
  have x_x_p5 : Box Wp5 (w6.heap.size) ([.slice p1x xs.length n1x, .slice p2x cs.length n2x]) := Box.below x_x_p4 hbp5
  have x_y_p5 : Box Wp5 (w8.heap.size) ([.slice p1y ys.length n1y, .slice p2y cs.length n2y]) := Box.below x_y_p4 hbp5
  have Bp5 := below_thru Bp4 hbp5
  have K_w6_p5 := below_thru K_w6_p4 hbp5
  have K_w8_p5 := below_thru K_w8_p4 hbp5
  clear x_d_p4 x_f_p4 x_x_p4 x_y_p4 Bp4 K_w6_p4 K_w8_p4 hbp5
  refine hK.out _ _ (And.intro x_d_p5 (And.intro x_f_p5 (And.intro x_x_p5 x_y_p5))) (fun _ => ?_); clear hK K
  refine takeH 9 69 (v := ?vp9_6) rfl (by rfl) (by kernel_rfl) (by kernel_rfl) (by kernel_rfl) (fun _ _ _ h => h) (Or.inl ⟨by rfl, ?_⟩) ((And.intro x_d_p5 (And.intro x_f_p5 (And.intro x_x_p5 x_y_p5)))) ?_
  rotate_left
  · intro wq hSq
    go_simp
    exact rfl
  try simp only [Act.put, List.setIfInBounds_toArray, List.set_cons_zero, List.set_cons_succ]
  refine takeH 10 70 (v := ?vp10_7) rfl (by rfl) (by kernel_rfl) (by kernel_rfl) (by kernel_rfl) (fun _ _ _ h => h) (Or.inl ⟨by rfl, ?_⟩) ((And.intro x_d_p5 (And.intro x_f_p5 (And.intro x_x_p5 x_y_p5)))) ?_
  rotate_left
  · intro wq hSq
    go_simp
    exact rfl
  try simp only [Act.put, List.setIfInBounds_toArray, List.set_cons_zero, List.set_cons_succ]
  refine wpAnyH_done (by kernel_rfl) ?_ _
  have hB10 := Bp5; have hs10 := hB10.size
  have x_d10 := x_d_p5
  have x_f10 := x_f_p5
  have x_x10 := x_x_p5
  have x_y10 := x_y_p5
  have K_w6_10 := K_w6_p5
  have K_w8_10 := K_w8_p5
  clear Bp5 x_d_p5 x_f_p5 x_x_p5 x_y_p5 K_w6_p5 K_w8_p5
  clear K_w6_10
  clear K_w8_10
  clear x_x10
  clear x_y10
  clear Ix Iy
  go_upto_region 13 with fail
  refine wp_region_held_drew (S := fun W => Box W (w.heap.size) ([v1, v2]) ∧ Box W (w.heap.size + 3) (F)) (by kernel_rfl) (And.intro (x_d10).drew (x_f10).drew) (fun _ => ?_)
  refine F_drew (F := fun W => wpAnyH _ _ _ _ _ _ _ _ W) ?_
  intro Wq0 hbq0
  clear hs10
  have x_d_q0 : Box Wq0 (w.heap.size) ([v1, v2]) := Box.below x_d10 hbq0
  have x_f_q0 : Box Wq0 (w.heap.size + 3) (F) := Box.below x_f10 hbq0
  have Bq0 := below_thru hB10 hbq0
  clear x_d10 x_f10 hB10 hbq0
  refine takeH 0 71 (v := ?vq0_1) rfl (by rfl) (by kernel_rfl) (by kernel_rfl) (by kernel_rfl) (fun _ _ _ h => h) (Or.inl ⟨by rfl, ?_⟩) ((And.intro x_d_q0 x_f_q0)) ?_
  rotate_left
  · intro wq hSq
    go_simp
    exact rfl
  try simp only [Act.put, List.setIfInBounds_toArray, List.set_cons_zero, List.set_cons_succ]
  refine takeH 1 72 (v := ?vq1_2) rfl (by rfl) (by kernel_rfl) (by kernel_rfl) (by kernel_rfl) (fun _ _ _ h => h) (Or.inl ⟨by rfl, ?_⟩) ((And.intro x_d_q0 x_f_q0)) ?_
  rotate_left
  · intro wq hSq
    have cq := (hSq.2).c 0 _ v0
    have zq := lt_of_cell cq
    go_simp
    exact rfl
  try simp only [Act.put, List.setIfInBounds_toArray, List.set_cons_zero, List.set_cons_succ]
  refine takeH 2 73 (v := ?vq2_3) rfl (by rfl) (by kernel_rfl) (by kernel_rfl) (by kernel_rfl) (fun _ _ _ h => h) (Or.inl ⟨by rfl, ?_⟩) ((And.intro x_d_q0 x_f_q0)) ?_
  rotate_left
  · intro wq hSq
    go_simp
    exact rfl
  try simp only [Act.put, List.setIfInBounds_toArray, List.set_cons_zero, List.set_cons_succ]
  refine takeH 3 74 (v := ?vq3_4) rfl (by rfl) (by kernel_rfl) (by kernel_rfl) (by kernel_rfl) (fun _ _ _ h => h) (Or.inl ⟨by rfl, ?_⟩) ((And.intro x_d_q0 x_f_q0)) ?_
  rotate_left
  · intro wq hSq
    go_simp
    exact rfl
  try simp only [Act.put, List.setIfInBounds_toArray, List.set_cons_zero, List.set_cons_succ]
  refine takeH 8 79 (v := ?vq8_5) rfl (by rfl) (by kernel_rfl) (by kernel_rfl) (by kernel_rfl) (fun _ _ _ h => h) (Or.inl ⟨by rfl, ?_⟩) ((And.intro x_d_q0 x_f_q0)) ?_
  rotate_left
  · intro wq hSq
    go_simp
    exact rfl
  try simp only [Act.put, List.setIfInBounds_toArray, List.set_cons_zero, List.set_cons_succ]
  refine takeH 9 80 (v := ?vq9_6) rfl (by rfl) (by kernel_rfl) (by kernel_rfl) (by kernel_rfl) (fun _ _ _ h => h) (Or.inl ⟨by rfl, ?_⟩) ((And.intro x_d_q0 x_f_q0)) ?_
  rotate_left
  · intro wq hSq
    go_simp
    exact rfl
  try simp only [Act.put, List.setIfInBounds_toArray, List.set_cons_zero, List.set_cons_succ]
  refine takeH 11 82 (v := ?vq11_7) rfl (by rfl) (by kernel_rfl) (by kernel_rfl) (by kernel_rfl) (fun _ _ _ h => h) (Or.inl ⟨by rfl, ?_⟩) ((And.intro x_d_q0 x_f_q0)) ?_
  rotate_left
  · intro wq hSq
    go_simp
    exact rfl
  try simp only [Act.put, List.setIfInBounds_toArray, List.set_cons_zero, List.set_cons_succ]
  refine takeH 12 83 (v := ?vq12_8) rfl (by rfl) (by kernel_rfl) (by kernel_rfl) (by kernel_rfl) (fun _ _ _ h => h) (Or.inl ⟨by rfl, ?_⟩) ((And.intro x_d_q0 x_f_q0)) ?_
  rotate_left
  · intro wq hSq
    go_simp
    exact rfl
  try simp only [Act.put, List.setIfInBounds_toArray, List.set_cons_zero, List.set_cons_succ]
  refine takeH 4 75 (v := .agg ([v1, v2]).toArray) rfl (by rfl) (by kernel_rfl) (by kernel_rfl) (by kernel_rfl) (fun _ _ _ h => h) (yieldsIf_load_mid (by rfl) _ _ rfl _ _ rfl ([v1, v2]) _ (fun wq hq => Box.range (hq.1)) Try.underlying25 rfl SD.out) ((And.intro x_d_q0 x_f_q0)) ?_
  try simp only [Act.put, List.setIfInBounds_toArray, List.set_cons_zero, List.set_cons_succ]
  refine takeH 5 76 (v := .agg (F).toArray) rfl (by rfl) (by kernel_rfl) (by kernel_rfl) (by kernel_rfl) (fun _ _ _ h => h) (yieldsIf_load_mid (by rfl) _ _ rfl _ _ rfl (F) _ (fun wq hq => Box.range (hq.2)) Try.underlying47 rfl SF.out) ((And.intro x_d_q0 x_f_q0)) ?_
  try simp only [Act.put, List.setIfInBounds_toArray, List.set_cons_zero, List.set_cons_succ]
  refine takeH 7 78 (v := .agg ([v1, v2]).toArray) rfl (by rfl) (by kernel_rfl) (by kernel_rfl) (by kernel_rfl) (fun _ _ _ h => h) (yieldsIf_load_mid (by rfl) _ _ rfl _ _ rfl ([v1, v2]) _ (fun wq hq => Box.range (hq.1)) Try.underlying25 rfl SD.out) ((And.intro x_d_q0 x_f_q0)) ?_
  try simp only [Act.put, List.setIfInBounds_toArray, List.set_cons_zero, List.set_cons_succ]
  refine takeH 10 81 (v := .agg (P).toArray) rfl (by rfl) (by kernel_rfl) (by kernel_rfl) (by kernel_rfl) (fun _ _ _ h => h) (yieldsIf_load_mid (by rfl) _ _ rfl _ _ rfl (P) _ (fun wq hq => Box.rangeMid (hq.2) 1 (P) (R) DT.out) Try.underlying34 rfl SP.out) ((And.intro x_d_q0 x_f_q0)) ?_
  try simp only [Act.put, List.setIfInBounds_toArray, List.set_cons_zero, List.set_cons_succ]
  refine wpAnyH_ready (rs := [6]) (by kernel_rfl) (by simp) (AllReadyH.cons rfl (fun K hK => ?_) AllReadyH.nil)
  go_simp
  refine (AD _ _ (HD.out.below Bq0)).mono ?_
  rintro e Wq9 ⟨rfl, hbq9⟩
  have x_d_q9 : Box Wq9 (w.heap.size) ([v1, v2]) := Box.below x_d_q0 hbq9
  have x_f_q9 : Box Wq9 (w.heap.size + 3) (F) := Box.below x_f_q0 hbq9
  have Bq9 := below_thru Bq0 hbq9
  clear x_d_q0 x_f_q0 Bq0 hbq9
  refine hK.out _ _ (And.intro x_d_q9 x_f_q9) (fun _ => ?_); clear hK K
  refine wpAnyH_ready (rs := [13]) (by kernel_rfl) (by simp) (AllReadyH.cons rfl (fun K hK => ?_) AllReadyH.nil)
  go_simp
  refine (RQ _).mono ?_
  rintro e Wq10 ⟨rfl, hbq10⟩
  have x_d_q10 : Box Wq10 (w.heap.size) ([v1, v2]) := Box.below x_d_q9 hbq10
  have x_f_q10 : Box Wq10 (w.heap.size + 3) (F) := Box.below x_f_q9 hbq10
  have Bq10 := below_thru Bq9 hbq10
  clear x_d_q9 x_f_q9 Bq9 hbq10
  refine hK.out _ _ (And.intro x_d_q10 x_f_q10) (fun _ => ?_); clear hK K
  refine wpAnyH_ready (rs := [14]) (by kernel_rfl) (by simp) (AllReadyH.cons rfl (fun K hK => ?_) AllReadyH.nil)
  go_simp
  refine (AQ _ _ (HD.out.below Bq10)).mono ?_
  rintro e Wq11 ⟨rfl, hbq11⟩
  have x_d_q11 : Box Wq11 (w.heap.size) ([v1, v2]) := Box.below x_d_q10 hbq11
  have x_f_q11 : Box Wq11 (w.heap.size + 3) (F) := Box.below x_f_q10 hbq11
  have Bq11 := below_thru Bq10 hbq11
  clear x_d_q10 x_f_q10 Bq10 hbq11
  refine hK.out _ _ (And.intro x_d_q11 x_f_q11) (fun _ => ?_); clear hK K
  refine takeH 15 86 (v := ?vq15_12) rfl (by rfl) (by kernel_rfl) (by kernel_rfl) (by kernel_rfl) (fun _ _ _ h => h) (Or.inl ⟨by rfl, ?_⟩) ((And.intro x_d_q11 x_f_q11)) ?_
  rotate_left
  · intro wq hSq
    go_simp
    exact rfl
  try simp only [Act.put, List.setIfInBounds_toArray, List.set_cons_zero, List.set_cons_succ]
  refine takeH 16 87 (v := ?vq16_13) rfl (by rfl) (by kernel_rfl) (by kernel_rfl) (by kernel_rfl) (fun _ _ _ h => h) (Or.inl ⟨by rfl, ?_⟩) ((And.intro x_d_q11 x_f_q11)) ?_
  rotate_left
  · intro wq hSq
    go_simp
    exact rfl
  try simp only [Act.put, List.setIfInBounds_toArray, List.set_cons_zero, List.set_cons_succ]
  refine wpAnyH_done (by kernel_rfl) ?_ _
  have hB11 := Bq11; have hs11 := hB11.size
  have x_d11 := x_d_q11
  have x_f11 := x_f_q11
  clear Bq11 x_d_q11 x_f_q11
  go_wp2_with fail
  refine (AL _).mono ?_
  rintro e w12 ⟨rfl, hb⟩
  have hB12 : Below w.heap.size w w12 := below_thru hB11 hb
  have hs12 := hB12.size
  have x_d12 : Box w12 (w.heap.size) ([v1, v2]) := Box.below x_d11 hb
  have x_f12 : Box w12 (w.heap.size + 3) (F) := Box.below x_f11 hb
  clear hB11 hs11 x_d11 x_f11
  clear hb
  go_wp2_with fail
  go_returns
  exact ⟨rfl, hB12⟩

set_option maxRecDepth 100000 in
set_option maxHeartbeats 6400000 in
theorem order12_0c {v : Value} {ts : List Tk} {cs : List Cmd} (t u : Tk) (f : Frm) {n m : Int} (hl : ts.length + cs.length ≤ 1000000000000000) (hg : FitD ts cs f) {asA bs xs ys : List Tk} (ha : PutT ts cs t asA cs 0) (hb : PutT ts cs u bs cs 0) (hx : PutT asA cs u xs cs 0) (hy : PutT bs cs t ys cs 0) (hk : f.kd = 2) (w : World) (h1 : IsD w v ts cs) : Calls Try.prog 7 #[v, .agg t.v.toArray, .agg u.v.toArray, .agg (mcell f).toArray, .int .u16 n, .int .u32 m] w fun e w' => e = .returned (.bool true) ∧ Below w.heap.size w w' := by
  have FT := fun (W : World) (x : Value) (h : IsD W x ts cs) => lfit12_is f hl (b := true) (⟨fun _ => hg, fun _ => rfl⟩) W h; have AL := fun W => alive12_is W
  have h180 := not_grt hg.1; have hc := hg.2.1
  have PA := fun (W : World) (x : Value) (h : IsD W x ts cs) => ptok_is t h180 ha W h; have PB := fun (W : World) (x : Value) (h : IsD W x ts cs) => ptok_is u h180 hb W h
  have ka := (ha.then12 hc).1; have kb := (hb.then12 hc).1; have za := ka.z12.1; have zb := kb.z12.1
  have PX := fun (W : World) (x : Value) (h : IsD W x asA cs) => ptok_is u (by omega) hx W h; have PY := fun (W : World) (x : Value) (h : IsD W x bs cs) => ptok_is t (by omega) hy W h
  have kx := (hx.then12 ka).1; have ky := (hy.then12 kb).1; have om := ((PutT.order12 hc ha hb hx hy).2 rfl).2; have zx := kx.z12.1; have zy := ky.z12.1
  obtain ⟨b, hbb⟩ := ex_bool12 (Acc xs cs f)
  have AX := fun (W : World) (x : Value) (h : IsD W x xs cs) => lacc12_is f (by omega) hbb W h; have AY := fun (W : World) (x : Value) (h : IsD W x ys cs) => lacc12_is f (by omega) (hbb.trans (acc_order12 kx ky om)) W h
  have nb : (b != b) = false := by simp
  have eb : (b == b) = true := by simp
  have v0 : (mcell f)[0]? = some (.int .u8 2) := by rw [← hk]; rfl
  have HD := Lib.hid h1
  obtain ⟨v1, v2, rfl, g1, g2⟩ := id h1
  have SD := Lib.hid (size_id12 v1 v2)
  clear g1 g2 h1
  have SV := Lib.hid (size_tk t); have SU := Lib.hid (size_tk u); have SF := Lib.hid (size_frm f)
  obtain ⟨V, hV⟩ : ∃ X, t.v = X := ⟨_, rfl⟩
  rw [hV] at SV PA PY ⊢
  clear hV
  obtain ⟨U, hU⟩ : ∃ X, u.v = X := ⟨_, rfl⟩
  rw [hU] at SU PB PX ⊢
  clear hU
  obtain ⟨F, hF⟩ : ∃ X, mcell f = X := ⟨_, rfl⟩
  rw [hF] at SF FT AX AY v0 ⊢
  clear hF
  clear hl hg ha hb hx hy hk h180 hc ka kb za zb kx ky om zx zy hbb
  go_enter Try.func7, Try.ntmps7
  go_upto_region 1 with fail
  refine F_gen (F := fun W => Code.wp _ _ _ _ W) (J := fun W => Box W (w.heap.size) ([v1, v2]) ∧ Box W (w.heap.size + 1) (V) ∧ Box W (w.heap.size + 2) (U) ∧ Box W (w.heap.size + 3) (F) ∧ Below w.heap.size w W) (And.intro (Box.alloc (Box.alloc (Box.alloc (Box.newc rfl rfl) _) _) _) (And.intro (Box.alloc (Box.alloc (Box.newc rfl (by simp)) _) _) (And.intro (Box.alloc (Box.newc rfl (by simp)) _) (And.intro (Box.newc rfl (by simp)) (by go_grown))))) ?_
  intro w0 ⟨e_d, e_t, e_u, e_f, hB0⟩
  have hs0 := hB0.size
  have x_d0 := e_d; clear e_d
  have x_t0 := e_t; clear e_t
  have x_u0 := e_u; clear e_u
  have x_f0 := e_f; clear e_f
  go_wp2_with (first
    | (refine wpList_load_box9 rfl _ _ rfl x_d0 rfl Try.underlying25 rfl SD.out ?_)
    | (refine wpList_load_box9 rfl _ _ rfl x_f0 rfl Try.underlying47 rfl SF.out ?_))
  refine (FT _ _ (HD.out.below hB0)).mono ?_
  rintro e w1 ⟨rfl, hb⟩
  have hB1 : Below w.heap.size w w1 := below_thru hB0 hb
  have hs1 := hB1.size
  have x_d1 : Box w1 (w.heap.size) ([v1, v2]) := Box.below x_d0 hb
  have x_t1 : Box w1 (w.heap.size + 1) (V) := Box.below x_t0 hb
  have x_u1 : Box w1 (w.heap.size + 2) (U) := Box.below x_u0 hb
  have x_f1 : Box w1 (w.heap.size + 3) (F) := Box.below x_f0 hb
  clear hB0 hs0 x_d0 x_t0 x_u0 x_f0
  clear hb
  go_wp2_with (first
    | (refine wpList_load_box9 rfl _ _ rfl x_d1 rfl Try.underlying25 rfl SD.out ?_)
    | (refine wpList_load_box9 rfl _ _ rfl x_t1 rfl Try.underlying34 rfl SV.out ?_))
  refine (PA _ _ (HD.out.below hB1)).mono ?_
  rintro e w2 ⟨x1a, x2a, rfl, o1a, o2a, hb⟩
  have Ia : Hid (IsD w2 (.agg #[x1a, x2a]) asA cs) := Lib.hid ⟨_, _, rfl, IsR.own o1a rfl rfl, IsR.own o2a rfl rfl⟩
  obtain ⟨p1a, n1a, rfl⟩ := own_slR o1a; obtain ⟨p2a, n2a, rfl⟩ := own_slR o2a
  have hB2 : Below w.heap.size w w2 := below_thru hB1 hb
  have hs2 := hB2.size
  have x_d2 : Box w2 (w.heap.size) ([v1, v2]) := Box.below x_d1 hb
  have x_t2 : Box w2 (w.heap.size + 1) (V) := Box.below x_t1 hb
  have x_u2 : Box w2 (w.heap.size + 2) (U) := Box.below x_u1 hb
  have x_f2 : Box w2 (w.heap.size + 3) (F) := Box.below x_f1 hb
  clear hB1 hs1 x_d1 x_t1 x_u1 x_f1
  clear hb
  clear o1a o2a
  have K_w2_2 : Below w2.heap.size w2 w2 := Below.refl _ _
  have d_a_d := (x_d2).lt
  have d_a_t := (x_t2).lt
  have d_a_u := (x_u2).lt
  have d_a_f := (x_f2).lt
  have d_a_0 := hs2
  go_upto_region 4 with (refine wpList_store_box (cs := [.slice p1a asA.length n1a, .slice p2a cs.length n2a]) rfl _ _ _ rfl (Box.newc (l := id0) rfl rfl) rfl rfl (size_id12 _ _) rfl (one_id12 _ _ _ _ _ _) ?_; intro W2_0 hW2_0)
  have hN : Below w2.heap.size w2 W2_0 := (hW2_0.below _ _ (by omega) ((Below.refl _ w2).alloc (Nat.le_refl _) _))
  have x_a3 : Box W2_0 (w2.heap.size) ([.slice p1a asA.length n1a, .slice p2a cs.length n2a]) := hW2_0.box
  have K_w2_3 : Below w2.heap.size w2 W2_0 := below_thru K_w2_2 hN
  clear K_w2_2
  have hB3 : Below w.heap.size w W2_0 := below_thru hB2 hN
  have hs3 := hB3.size
  have x_d3 : Box W2_0 (w.heap.size) ([v1, v2]) := Box.below x_d2 hN
  have x_t3 : Box W2_0 (w.heap.size + 1) (V) := Box.below x_t2 hN
  have x_u3 : Box W2_0 (w.heap.size + 2) (U) := Box.below x_u2 hN
  have x_f3 : Box W2_0 (w.heap.size + 3) (F) := Box.below x_f2 hN
  clear hB2 hs2 x_d2 x_t2 x_u2 x_f2
  clear hN hW2_0
  go_wp2_with (first
    | (refine wpList_load_box9 rfl _ _ rfl x_d3 rfl Try.underlying25 rfl SD.out ?_)
    | (refine wpList_load_box9 rfl _ _ rfl x_u3 rfl Try.underlying34 rfl SU.out ?_))
  refine (PB _ _ (HD.out.below hB3)).mono ?_
  rintro e w4 ⟨x1b, x2b, rfl, o1b, o2b, hb⟩
  have Ib : Hid (IsD w4 (.agg #[x1b, x2b]) bs cs) := Lib.hid ⟨_, _, rfl, IsR.own o1b rfl rfl, IsR.own o2b rfl rfl⟩
  obtain ⟨p1b, n1b, rfl⟩ := own_slR o1b; obtain ⟨p2b, n2b, rfl⟩ := own_slR o2b
  have K_w2_4 : Below w2.heap.size w2 w4 := below_thru K_w2_3 hb
  clear K_w2_3
  have hB4 : Below w.heap.size w w4 := below_thru hB3 hb
  have hs4 := hB4.size
  have x_d4 : Box w4 (w.heap.size) ([v1, v2]) := Box.below x_d3 hb
  have x_t4 : Box w4 (w.heap.size + 1) (V) := Box.below x_t3 hb
  have x_u4 : Box w4 (w.heap.size + 2) (U) := Box.below x_u3 hb
  have x_f4 : Box w4 (w.heap.size + 3) (F) := Box.below x_f3 hb
  have x_a4 : Box w4 (w2.heap.size) ([.slice p1a asA.length n1a, .slice p2a cs.length n2a]) := Box.below x_a3 hb
  clear hB3 hs3 x_d3 x_t3 x_u3 x_f3 x_a3
  clear hb
  clear o1b o2b
  have K_w4_4 : Below w4.heap.size w4 w4 := Below.refl _ _
  have d_b_d := (x_d4).lt
  have d_b_t := (x_t4).lt
  have d_b_u := (x_u4).lt
  have d_b_f := (x_f4).lt
  have d_b_a := (x_a4).lt
  have d_b_0 := hs4
  go_upto_region 5 with (refine wpList_store_box (cs := [.slice p1b bs.length n1b, .slice p2b cs.length n2b]) rfl _ _ _ rfl (Box.newc (l := id0) rfl rfl) rfl rfl (size_id12 _ _) rfl (one_id12 _ _ _ _ _ _) ?_; intro W4_0 hW4_0)
  have hN : Below w4.heap.size w4 W4_0 := (hW4_0.below _ _ (by omega) ((Below.refl _ w4).alloc (Nat.le_refl _) _))
  have x_b5 : Box W4_0 (w4.heap.size) ([.slice p1b bs.length n1b, .slice p2b cs.length n2b]) := hW4_0.box
  have K_w2_5 : Below w2.heap.size w2 W4_0 := below_thru K_w2_4 hN
  have K_w4_5 : Below w4.heap.size w4 W4_0 := below_thru K_w4_4 hN
  clear K_w2_4 K_w4_4
  have hB5 : Below w.heap.size w W4_0 := below_thru hB4 hN
  have hs5 := hB5.size
  have x_d5 : Box W4_0 (w.heap.size) ([v1, v2]) := Box.below x_d4 hN
  have x_t5 : Box W4_0 (w.heap.size + 1) (V) := Box.below x_t4 hN
  have x_u5 : Box W4_0 (w.heap.size + 2) (U) := Box.below x_u4 hN
  have x_f5 : Box W4_0 (w.heap.size + 3) (F) := Box.below x_f4 hN
  have x_a5 : Box W4_0 (w2.heap.size) ([.slice p1a asA.length n1a, .slice p2a cs.length n2a]) := Box.below x_a4 hN
  clear hB4 hs4 x_d4 x_t4 x_u4 x_f4 x_a4
  clear hN hW4_0
  go_wp2_with (first
    | (refine wpList_load_box9 rfl _ _ rfl x_a5 rfl Try.underlying25 rfl (size_id12 _ _) ?_)
    | (refine wpList_load_box9 rfl _ _ rfl x_u5 rfl Try.underlying34 rfl SU.out ?_))
  refine (PX _ _ (Ia.out.below K_w2_5)).mono ?_
  rintro e w6 ⟨x1x, x2x, rfl, o1x, o2x, hb⟩
  have Ix : Hid (IsD w6 (.agg #[x1x, x2x]) xs cs) := Lib.hid ⟨_, _, rfl, IsR.own o1x rfl rfl, IsR.own o2x rfl rfl⟩
  obtain ⟨p1x, n1x, rfl⟩ := own_slR o1x; obtain ⟨p2x, n2x, rfl⟩ := own_slR o2x
  have K_w2_6 : Below w2.heap.size w2 w6 := below_thru K_w2_5 hb
  have K_w4_6 : Below w4.heap.size w4 w6 := below_thru K_w4_5 hb
  clear K_w2_5 K_w4_5
  have hB6 : Below w.heap.size w w6 := below_thru hB5 hb
  have hs6 := hB6.size
  have x_d6 : Box w6 (w.heap.size) ([v1, v2]) := Box.below x_d5 hb
  have x_t6 : Box w6 (w.heap.size + 1) (V) := Box.below x_t5 hb
  have x_u6 : Box w6 (w.heap.size + 2) (U) := Box.below x_u5 hb
  have x_f6 : Box w6 (w.heap.size + 3) (F) := Box.below x_f5 hb
  have x_a6 : Box w6 (w2.heap.size) ([.slice p1a asA.length n1a, .slice p2a cs.length n2a]) := Box.below x_a5 hb
  have x_b6 : Box w6 (w4.heap.size) ([.slice p1b bs.length n1b, .slice p2b cs.length n2b]) := Box.below x_b5 hb
  clear hB5 hs5 x_d5 x_t5 x_u5 x_f5 x_a5 x_b5
  clear hb
  clear o1x o2x
  have K_w6_6 : Below w6.heap.size w6 w6 := Below.refl _ _
  have d_x_d := (x_d6).lt
  have d_x_t := (x_t6).lt
  have d_x_u := (x_u6).lt
  have d_x_f := (x_f6).lt
  have d_x_a := (x_a6).lt
  have d_x_b := (x_b6).lt
  have d_x_0 := hs6
  go_upto_region 8 with (refine wpList_store_box (cs := [.slice p1x xs.length n1x, .slice p2x cs.length n2x]) rfl _ _ _ rfl (Box.newc (l := id0) rfl rfl) rfl rfl (size_id12 _ _) rfl (one_id12 _ _ _ _ _ _) ?_; intro W6_0 hW6_0)
  have hN : Below w6.heap.size w6 W6_0 := (hW6_0.below _ _ (by omega) ((Below.refl _ w6).alloc (Nat.le_refl _) _))
  have x_x7 : Box W6_0 (w6.heap.size) ([.slice p1x xs.length n1x, .slice p2x cs.length n2x]) := hW6_0.box
  have K_w2_7 : Below w2.heap.size w2 W6_0 := below_thru K_w2_6 hN
  have K_w4_7 : Below w4.heap.size w4 W6_0 := below_thru K_w4_6 hN
  have K_w6_7 : Below w6.heap.size w6 W6_0 := below_thru K_w6_6 hN
  clear K_w2_6 K_w4_6 K_w6_6
  have hB7 : Below w.heap.size w W6_0 := below_thru hB6 hN
  have hs7 := hB7.size
  have x_d7 : Box W6_0 (w.heap.size) ([v1, v2]) := Box.below x_d6 hN
  have x_t7 : Box W6_0 (w.heap.size + 1) (V) := Box.below x_t6 hN
  have x_u7 : Box W6_0 (w.heap.size + 2) (U) := Box.below x_u6 hN
  have x_f7 : Box W6_0 (w.heap.size + 3) (F) := Box.below x_f6 hN
  have x_a7 : Box W6_0 (w2.heap.size) ([.slice p1a asA.length n1a, .slice p2a cs.length n2a]) := Box.below x_a6 hN
  have x_b7 : Box W6_0 (w4.heap.size) ([.slice p1b bs.length n1b, .slice p2b cs.length n2b]) := Box.below x_b6 hN
  clear hB6 hs6 x_d6 x_t6 x_u6 x_f6 x_a6 x_b6
  clear hN hW6_0
  clear K_w2_7
  clear x_a7
  clear x_u7
  clear Ia
  go_wp2_with (first
    | (refine wpList_load_box9 rfl _ _ rfl x_b7 rfl Try.underlying25 rfl (size_id12 _ _) ?_)
    | (refine wpList_load_box9 rfl _ _ rfl x_t7 rfl Try.underlying34 rfl SV.out ?_))
  refine (PY _ _ (Ib.out.below K_w4_7)).mono ?_
  rintro e w8 ⟨x1y, x2y, rfl, o1y, o2y, hb⟩
  have Iy : Hid (IsD w8 (.agg #[x1y, x2y]) ys cs) := Lib.hid ⟨_, _, rfl, IsR.own o1y rfl rfl, IsR.own o2y rfl rfl⟩
  obtain ⟨p1y, n1y, rfl⟩ := own_slR o1y; obtain ⟨p2y, n2y, rfl⟩ := own_slR o2y
  have K_w4_8 : Below w4.heap.size w4 w8 := below_thru K_w4_7 hb
  have K_w6_8 : Below w6.heap.size w6 w8 := below_thru K_w6_7 hb
  clear K_w4_7 K_w6_7
  have hB8 : Below w.heap.size w w8 := below_thru hB7 hb
  have hs8 := hB8.size
  have x_d8 : Box w8 (w.heap.size) ([v1, v2]) := Box.below x_d7 hb
  have x_t8 : Box w8 (w.heap.size + 1) (V) := Box.below x_t7 hb
  have x_f8 : Box w8 (w.heap.size + 3) (F) := Box.below x_f7 hb
  have x_b8 : Box w8 (w4.heap.size) ([.slice p1b bs.length n1b, .slice p2b cs.length n2b]) := Box.below x_b7 hb
  have x_x8 : Box w8 (w6.heap.size) ([.slice p1x xs.length n1x, .slice p2x cs.length n2x]) := Box.below x_x7 hb
  clear hB7 hs7 x_d7 x_t7 x_f7 x_b7 x_x7
  clear hb
  clear o1y o2y
  have K_w8_8 : Below w8.heap.size w8 w8 := Below.refl _ _
  have d_y_d := (x_d8).lt
  have d_y_t := (x_t8).lt
  have d_y_f := (x_f8).lt
  have d_y_b := (x_b8).lt
  have d_y_x := (x_x8).lt
  have d_y_0 := hs8
  go_upto_region 9 with (refine wpList_store_box (cs := [.slice p1y ys.length n1y, .slice p2y cs.length n2y]) rfl _ _ _ rfl (Box.newc (l := id0) rfl rfl) rfl rfl (size_id12 _ _) rfl (one_id12 _ _ _ _ _ _) ?_; intro W8_0 hW8_0)
  have hN : Below w8.heap.size w8 W8_0 := (hW8_0.below _ _ (by omega) ((Below.refl _ w8).alloc (Nat.le_refl _) _))
  have x_y9 : Box W8_0 (w8.heap.size) ([.slice p1y ys.length n1y, .slice p2y cs.length n2y]) := hW8_0.box
  have K_w4_9 : Below w4.heap.size w4 W8_0 := below_thru K_w4_8 hN
  have K_w6_9 : Below w6.heap.size w6 W8_0 := below_thru K_w6_8 hN
  have K_w8_9 : Below w8.heap.size w8 W8_0 := below_thru K_w8_8 hN
  clear K_w4_8 K_w6_8 K_w8_8
  have hB9 : Below w.heap.size w W8_0 := below_thru hB8 hN
  have hs9 := hB9.size
  have x_d9 : Box W8_0 (w.heap.size) ([v1, v2]) := Box.below x_d8 hN
  have x_t9 : Box W8_0 (w.heap.size + 1) (V) := Box.below x_t8 hN
  have x_f9 : Box W8_0 (w.heap.size + 3) (F) := Box.below x_f8 hN
  have x_b9 : Box W8_0 (w4.heap.size) ([.slice p1b bs.length n1b, .slice p2b cs.length n2b]) := Box.below x_b8 hN
  have x_x9 : Box W8_0 (w6.heap.size) ([.slice p1x xs.length n1x, .slice p2x cs.length n2x]) := Box.below x_x8 hN
  clear hB8 hs8 x_d8 x_t8 x_f8 x_b8 x_x8
  clear hN hW8_0
  clear K_w4_9
  clear x_b9
  clear x_t9
  clear Ib
  go_upto_region 11 with fail
  refine wp_region_held_drew (S := fun W => Box W (w.heap.size) ([v1, v2]) ∧ Box W (w.heap.size + 3) (F) ∧ Box W (w6.heap.size) ([.slice p1x xs.length n1x, .slice p2x cs.length n2x]) ∧ Box W (w8.heap.size) ([.slice p1y ys.length n1y, .slice p2y cs.length n2y])) (by kernel_rfl) (And.intro (x_d9).drew (And.intro (x_f9).drew (And.intro (x_x9).drew (x_y9).drew))) (fun _ => ?_)
  refine F_drew (F := fun W => wpAnyH _ _ _ _ _ _ _ _ W) ?_
  intro Wp0 hbp0
  clear hs9
  have x_d_p0 : Box Wp0 (w.heap.size) ([v1, v2]) := Box.below x_d9 hbp0
  have x_f_p0 : Box Wp0 (w.heap.size + 3) (F) := Box.below x_f9 hbp0
  have x_x_p0 : Box Wp0 (w6.heap.size) ([.slice p1x xs.length n1x, .slice p2x cs.length n2x]) := Box.below x_x9 hbp0
  have x_y_p0 : Box Wp0 (w8.heap.size) ([.slice p1y ys.length n1y, .slice p2y cs.length n2y]) := Box.below x_y9 hbp0
  have Bp0 := below_thru hB9 hbp0
  have K_w6_p0 := below_thru K_w6_9 hbp0
  have K_w8_p0 := below_thru K_w8_9 hbp0
  clear x_d9 x_f9 x_x9 x_y9 hB9 K_w6_9 K_w8_9 hbp0
  refine takeH 0 60 (v := ?vp0_1) rfl (by rfl) (by kernel_rfl) (by kernel_rfl) (by kernel_rfl) (fun _ _ _ h => h) (Or.inl ⟨by rfl, ?_⟩) ((And.intro x_d_p0 (And.intro x_f_p0 (And.intro x_x_p0 x_y_p0)))) ?_
  rotate_left
  · intro wq hSq
    go_simp
    exact rfl
  try simp only [Act.put, List.setIfInBounds_toArray, List.set_cons_zero, List.set_cons_succ]
  refine takeH 1 61 (v := ?vp1_2) rfl (by rfl) (by kernel_rfl) (by kernel_rfl) (by kernel_rfl) (fun _ _ _ h => h) (Or.inl ⟨by rfl, ?_⟩) ((And.intro x_d_p0 (And.intro x_f_p0 (And.intro x_x_p0 x_y_p0)))) ?_
  rotate_left
  · intro wq hSq
    go_simp
    exact rfl
  try simp only [Act.put, List.setIfInBounds_toArray, List.set_cons_zero, List.set_cons_succ]
  refine takeH 2 62 (v := ?vp2_3) rfl (by rfl) (by kernel_rfl) (by kernel_rfl) (by kernel_rfl) (fun _ _ _ h => h) (Or.inl ⟨by rfl, ?_⟩) ((And.intro x_d_p0 (And.intro x_f_p0 (And.intro x_x_p0 x_y_p0)))) ?_
  rotate_left
  · intro wq hSq
    go_simp
    exact rfl
  try simp only [Act.put, List.setIfInBounds_toArray, List.set_cons_zero, List.set_cons_succ]
  refine takeH 3 63 (v := .agg ([.slice p1x xs.length n1x, .slice p2x cs.length n2x]).toArray) rfl (by rfl) (by kernel_rfl) (by kernel_rfl) (by kernel_rfl) (fun _ _ _ h => h) (yieldsIf_load_mid (by rfl) _ _ rfl _ _ rfl ([.slice p1x xs.length n1x, .slice p2x cs.length n2x]) _ (fun wq hq => Box.range (hq.2.2.1)) Try.underlying25 rfl (size_id12 _ _)) ((And.intro x_d_p0 (And.intro x_f_p0 (And.intro x_x_p0 x_y_p0)))) ?_
  try simp only [Act.put, List.setIfInBounds_toArray, List.set_cons_zero, List.set_cons_succ]
  refine takeH 4 64 (v := .agg (F).toArray) rfl (by rfl) (by kernel_rfl) (by kernel_rfl) (by kernel_rfl) (fun _ _ _ h => h) (yieldsIf_load_mid (by rfl) _ _ rfl _ _ rfl (F) _ (fun wq hq => Box.range (hq.2.1)) Try.underlying47 rfl SF.out) ((And.intro x_d_p0 (And.intro x_f_p0 (And.intro x_x_p0 x_y_p0)))) ?_
  try simp only [Act.put, List.setIfInBounds_toArray, List.set_cons_zero, List.set_cons_succ]
  refine takeH 6 66 (v := .agg ([.slice p1y ys.length n1y, .slice p2y cs.length n2y]).toArray) rfl (by rfl) (by kernel_rfl) (by kernel_rfl) (by kernel_rfl) (fun _ _ _ h => h) (yieldsIf_load_mid (by rfl) _ _ rfl _ _ rfl ([.slice p1y ys.length n1y, .slice p2y cs.length n2y]) _ (fun wq hq => Box.range (hq.2.2.2)) Try.underlying25 rfl (size_id12 _ _)) ((And.intro x_d_p0 (And.intro x_f_p0 (And.intro x_x_p0 x_y_p0)))) ?_
  try simp only [Act.put, List.setIfInBounds_toArray, List.set_cons_zero, List.set_cons_succ]
  refine takeH 7 67 (v := .agg (F).toArray) rfl (by rfl) (by kernel_rfl) (by kernel_rfl) (by kernel_rfl) (fun _ _ _ h => h) (yieldsIf_load_mid (by rfl) _ _ rfl _ _ rfl (F) _ (fun wq hq => Box.range (hq.2.1)) Try.underlying47 rfl SF.out) ((And.intro x_d_p0 (And.intro x_f_p0 (And.intro x_x_p0 x_y_p0)))) ?_
  try simp only [Act.put, List.setIfInBounds_toArray, List.set_cons_zero, List.set_cons_succ]
  refine wpAnyH_ready (rs := [5]) (by kernel_rfl) (by simp) (AllReadyH.cons rfl (fun K hK => ?_) AllReadyH.nil)
  go_simp
  refine (AX _ _ (Ix.out.below K_w6_p0)).mono ?_
  rintro e Wp4 ⟨rfl, hbp4⟩
  have x_d_p4 : Box Wp4 (w.heap.size) ([v1, v2]) := Box.below x_d_p0 hbp4
  have x_f_p4 : Box Wp4 (w.heap.size + 3) (F) := Box.below x_f_p0 hbp4
  have x_x_p4 : Box Wp4 (w6.heap.size) ([.slice p1x xs.length n1x, .slice p2x cs.length n2x]) := Box.below x_x_p0 hbp4
  have x_y_p4 : Box Wp4 (w8.heap.size) ([.slice p1y ys.length n1y, .slice p2y cs.length n2y]) := Box.below x_y_p0 hbp4
  have Bp4 := below_thru Bp0 hbp4
  have K_w6_p4 := below_thru K_w6_p0 hbp4
  have K_w8_p4 := below_thru K_w8_p0 hbp4
  clear x_d_p0 x_f_p0 x_x_p0 x_y_p0 Bp0 K_w6_p0 K_w8_p0 hbp4
  refine hK.out _ _ (And.intro x_d_p4 (And.intro x_f_p4 (And.intro x_x_p4 x_y_p4))) (fun _ => ?_); clear hK K
  refine wpAnyH_ready (rs := [8]) (by kernel_rfl) (by simp) (AllReadyH.cons rfl (fun K hK => ?_) AllReadyH.nil)
  go_simp
  refine (AY _ _ (Iy.out.below K_w8_p4)).mono ?_
  rintro e Wp5 ⟨rfl, hbp5⟩
  have x_d_p5 : Box Wp5 (w.heap.size) ([v1, v2]) := Box.below x_d_p4 hbp5
  have x_f_p5 : Box Wp5 (w.heap.size + 3) (F) := Box.below x_f_p4 hbp5
  have x_x_p5 : Box Wp5 (w6.heap.size) ([.slice p1x xs.length n1x, .slice p2x cs.length n2x]) := Box.below x_x_p4 hbp5
  have x_y_p5 : Box Wp5 (w8.heap.size) ([.slice p1y ys.length n1y, .slice p2y cs.length n2y]) := Box.below x_y_p4 hbp5
  have Bp5 := below_thru Bp4 hbp5
  have K_w6_p5 := below_thru K_w6_p4 hbp5
  have K_w8_p5 := below_thru K_w8_p4 hbp5
  clear x_d_p4 x_f_p4 x_x_p4 x_y_p4 Bp4 K_w6_p4 K_w8_p4 hbp5
  refine hK.out _ _ (And.intro x_d_p5 (And.intro x_f_p5 (And.intro x_x_p5 x_y_p5))) (fun _ => ?_); clear hK K
  refine takeH 9 69 (v := ?vp9_6) rfl (by rfl) (by kernel_rfl) (by kernel_rfl) (by kernel_rfl) (fun _ _ _ h => h) (Or.inl ⟨by rfl, ?_⟩) ((And.intro x_d_p5 (And.intro x_f_p5 (And.intro x_x_p5 x_y_p5)))) ?_
  rotate_left
  · intro wq hSq
    go_simp
    exact rfl
  try simp only [Act.put, List.setIfInBounds_toArray, List.set_cons_zero, List.set_cons_succ]
  refine takeH 10 70 (v := ?vp10_7) rfl (by rfl) (by kernel_rfl) (by kernel_rfl) (by kernel_rfl) (fun _ _ _ h => h) (Or.inl ⟨by rfl, ?_⟩) ((And.intro x_d_p5 (And.intro x_f_p5 (And.intro x_x_p5 x_y_p5)))) ?_
  rotate_left
  · intro wq hSq
    go_simp
    exact rfl
  try simp only [Act.put, List.setIfInBounds_toArray, List.set_cons_zero, List.set_cons_succ]
  refine wpAnyH_done (by kernel_rfl) ?_ _
  have hB10 := Bp5; have hs10 := hB10.size
  have x_d10 := x_d_p5
  have x_f10 := x_f_p5
  have x_x10 := x_x_p5
  have x_y10 := x_y_p5
  have K_w6_10 := K_w6_p5
  have K_w8_10 := K_w8_p5
  clear Bp5 x_d_p5 x_f_p5 x_x_p5 x_y_p5 K_w6_p5 K_w8_p5
  clear K_w6_10
  clear K_w8_10
  clear x_x10
  clear x_y10
  clear Ix Iy
  go_upto_region 13 with fail
  refine wp_region_held_drew (S := fun W => Box W (w.heap.size) ([v1, v2]) ∧ Box W (w.heap.size + 3) (F)) (by kernel_rfl) (And.intro (x_d10).drew (x_f10).drew) (fun _ => ?_)
  refine F_drew (F := fun W => wpAnyH _ _ _ _ _ _ _ _ W) ?_
  intro Wq0 hbq0
  clear hs10
  have x_d_q0 : Box Wq0 (w.heap.size) ([v1, v2]) := Box.below x_d10 hbq0
  have x_f_q0 : Box Wq0 (w.heap.size + 3) (F) := Box.below x_f10 hbq0
  have Bq0 := below_thru hB10 hbq0
  clear x_d10 x_f10 hB10 hbq0
  refine takeH 0 71 (v := ?vq0_1) rfl (by rfl) (by kernel_rfl) (by kernel_rfl) (by kernel_rfl) (fun _ _ _ h => h) (Or.inl ⟨by rfl, ?_⟩) ((And.intro x_d_q0 x_f_q0)) ?_
  rotate_left
  · intro wq hSq
    go_simp
    exact rfl
  try simp only [Act.put, List.setIfInBounds_toArray, List.set_cons_zero, List.set_cons_succ]
  refine takeH 1 72 (v := ?vq1_2) rfl (by rfl) (by kernel_rfl) (by kernel_rfl) (by kernel_rfl) (fun _ _ _ h => h) (Or.inl ⟨by rfl, ?_⟩) ((And.intro x_d_q0 x_f_q0)) ?_
  rotate_left
  · intro wq hSq
    have cq := (hSq.2).c 0 _ v0
    have zq := lt_of_cell cq
    go_simp
    exact rfl
  try simp only [Act.put, List.setIfInBounds_toArray, List.set_cons_zero, List.set_cons_succ]
  refine takeH 2 73 (v := ?vq2_3) rfl (by rfl) (by kernel_rfl) (by kernel_rfl) (by kernel_rfl) (fun _ _ _ h => h) (Or.inl ⟨by rfl, ?_⟩) ((And.intro x_d_q0 x_f_q0)) ?_
  rotate_left
  · intro wq hSq
    go_simp
    exact rfl
  try simp only [Act.put, List.setIfInBounds_toArray, List.set_cons_zero, List.set_cons_succ]
  refine takeH 3 74 (v := ?vq3_4) rfl (by rfl) (by kernel_rfl) (by kernel_rfl) (by kernel_rfl) (fun _ _ _ h => h) (Or.inl ⟨by rfl, ?_⟩) ((And.intro x_d_q0 x_f_q0)) ?_
  rotate_left
  · intro wq hSq
    go_simp
    exact rfl
  try simp only [Act.put, List.setIfInBounds_toArray, List.set_cons_zero, List.set_cons_succ]
  refine takeH 4 75 (v := undef) rfl (by rfl) (by kernel_rfl) (by kernel_rfl) (by kernel_rfl) (fun _ _ _ h => h) (Or.inr ⟨by rfl, rfl⟩) ((And.intro x_d_q0 x_f_q0)) ?_
  try simp only [Act.put, List.setIfInBounds_toArray, List.set_cons_zero, List.set_cons_succ]
  refine takeH 5 76 (v := undef) rfl (by rfl) (by kernel_rfl) (by kernel_rfl) (by kernel_rfl) (fun _ _ _ h => h) (Or.inr ⟨by rfl, rfl⟩) ((And.intro x_d_q0 x_f_q0)) ?_
  try simp only [Act.put, List.setIfInBounds_toArray, List.set_cons_zero, List.set_cons_succ]
  refine takeH 6 77 (v := undef) rfl (by rfl) (by kernel_rfl) (by kernel_rfl) (by kernel_rfl) (fun _ _ _ h => h) (Or.inr ⟨by rfl, rfl⟩) ((And.intro x_d_q0 x_f_q0)) ?_
  try simp only [Act.put, List.setIfInBounds_toArray, List.set_cons_zero, List.set_cons_succ]
  refine takeH 7 78 (v := undef) rfl (by rfl) (by kernel_rfl) (by kernel_rfl) (by kernel_rfl) (fun _ _ _ h => h) (Or.inr ⟨by rfl, rfl⟩) ((And.intro x_d_q0 x_f_q0)) ?_
  try simp only [Act.put, List.setIfInBounds_toArray, List.set_cons_zero, List.set_cons_succ]
  refine takeH 8 79 (v := undef) rfl (by rfl) (by kernel_rfl) (by kernel_rfl) (by kernel_rfl) (fun _ _ _ h => h) (Or.inr ⟨by rfl, rfl⟩) ((And.intro x_d_q0 x_f_q0)) ?_
  try simp only [Act.put, List.setIfInBounds_toArray, List.set_cons_zero, List.set_cons_succ]
  refine takeH 9 80 (v := undef) rfl (by rfl) (by kernel_rfl) (by kernel_rfl) (by kernel_rfl) (fun _ _ _ h => h) (Or.inr ⟨by rfl, rfl⟩) ((And.intro x_d_q0 x_f_q0)) ?_
  try simp only [Act.put, List.setIfInBounds_toArray, List.set_cons_zero, List.set_cons_succ]
  refine takeH 10 81 (v := undef) rfl (by rfl) (by kernel_rfl) (by kernel_rfl) (by kernel_rfl) (fun _ _ _ h => h) (Or.inr ⟨by rfl, rfl⟩) ((And.intro x_d_q0 x_f_q0)) ?_
  try simp only [Act.put, List.setIfInBounds_toArray, List.set_cons_zero, List.set_cons_succ]
  refine takeH 11 82 (v := undef) rfl (by rfl) (by kernel_rfl) (by kernel_rfl) (by kernel_rfl) (fun _ _ _ h => h) (Or.inr ⟨by rfl, rfl⟩) ((And.intro x_d_q0 x_f_q0)) ?_
  try simp only [Act.put, List.setIfInBounds_toArray, List.set_cons_zero, List.set_cons_succ]
  refine takeH 12 83 (v := undef) rfl (by rfl) (by kernel_rfl) (by kernel_rfl) (by kernel_rfl) (fun _ _ _ h => h) (Or.inr ⟨by rfl, rfl⟩) ((And.intro x_d_q0 x_f_q0)) ?_
  try simp only [Act.put, List.setIfInBounds_toArray, List.set_cons_zero, List.set_cons_succ]
  refine takeH 13 84 (v := undef) rfl (by rfl) (by kernel_rfl) (by kernel_rfl) (by kernel_rfl) (fun _ _ _ h => h) (Or.inr ⟨by rfl, rfl⟩) ((And.intro x_d_q0 x_f_q0)) ?_
  try simp only [Act.put, List.setIfInBounds_toArray, List.set_cons_zero, List.set_cons_succ]
  refine takeH 14 85 (v := undef) rfl (by rfl) (by kernel_rfl) (by kernel_rfl) (by kernel_rfl) (fun _ _ _ h => h) (Or.inr ⟨by rfl, rfl⟩) ((And.intro x_d_q0 x_f_q0)) ?_
  try simp only [Act.put, List.setIfInBounds_toArray, List.set_cons_zero, List.set_cons_succ]
  refine takeH 15 86 (v := undef) rfl (by rfl) (by kernel_rfl) (by kernel_rfl) (by kernel_rfl) (fun _ _ _ h => h) (Or.inr ⟨by rfl, rfl⟩) ((And.intro x_d_q0 x_f_q0)) ?_
  try simp only [Act.put, List.setIfInBounds_toArray, List.set_cons_zero, List.set_cons_succ]
  refine takeH 16 87 (v := ?vq16_5) rfl (by rfl) (by kernel_rfl) (by kernel_rfl) (by kernel_rfl) (fun _ _ _ h => h) (Or.inl ⟨by rfl, ?_⟩) ((And.intro x_d_q0 x_f_q0)) ?_
  rotate_left
  · intro wq hSq
    go_simp
    exact rfl
  try simp only [Act.put, List.setIfInBounds_toArray, List.set_cons_zero, List.set_cons_succ]
  refine wpAnyH_done (by kernel_rfl) ?_ _
  have hB11 := Bq0; have hs11 := hB11.size
  have x_d11 := x_d_q0
  have x_f11 := x_f_q0
  clear Bq0 x_d_q0 x_f_q0
  go_wp2_with fail
  refine (AL _).mono ?_
  rintro e w12 ⟨rfl, hb⟩
  have hB12 : Below w.heap.size w w12 := below_thru hB11 hb
  have hs12 := hB12.size
  have x_d12 : Box w12 (w.heap.size) ([v1, v2]) := Box.below x_d11 hb
  have x_f12 : Box w12 (w.heap.size + 3) (F) := Box.below x_f11 hb
  clear hB11 hs11 x_d11 x_f11
  clear hb
  go_wp2_with fail
  go_returns
  exact ⟨rfl, hB12⟩

set_option maxRecDepth 100000 in
set_option maxHeartbeats 6400000 in
theorem order12_1r {v : Value} {ts : List Tk} {cs : List Cmd} (t u : Tk) (f : Frm) {n m : Int} (hl : ts.length + cs.length ≤ 1000000000000000) (hg : FitD ts cs f) {asA bs xs ys : List Tk} {dx dy : List Cmd} {h : Int} (ha : PutT ts cs t asA cs 0) (hb : PutT ts cs u bs cs 0) (hx : PutT asA cs u xs dx h) (hy : PutT bs cs t ys dy h) (hh : h ≠ 0) (hk : f.kd = 1) (hn : 0 ≤ n ∧ n ≤ 65535) (hm : 0 ≤ m ∧ m ≤ 4294967295) (w : World) (h1 : IsD w v ts cs) : Calls Try.prog 7 #[v, .agg t.v.toArray, .agg u.v.toArray, .agg (mcell f).toArray, .int .u16 n, .int .u32 m] w fun e w' => e = .returned (.bool true) ∧ Below w.heap.size w w' := by
  have FT := fun (W : World) (x : Value) (h : IsD W x ts cs) => lfit12_is f hl (b := true) (⟨fun _ => hg, fun _ => rfl⟩) W h; have AL := fun W => alive12_is W
  have h180 := not_grt hg.1; have hc := hg.2.1
  have PA := fun (W : World) (x : Value) (h : IsD W x ts cs) => ptok_is t h180 ha W h; have PB := fun (W : World) (x : Value) (h : IsD W x ts cs) => ptok_is u h180 hb W h
  have ka := (ha.then12 hc).1; have kb := (hb.then12 hc).1; have za := ka.z12.1; have zb := kb.z12.1
  have PX := fun (W : World) (x : Value) (h : IsD W x asA cs) => ptok_is u (by omega) hx W h; have PY := fun (W : World) (x : Value) (h : IsD W x bs cs) => ptok_is t (by omega) hy W h
  have d1 : (h == 0) = false := by simpa using hh
  have n1 : (h != h) = false := by simp
  have n2 : (h == h) = true := by simp
  have v0 : (mcell f)[0]? = some (.int .u8 1) := by rw [← hk]; rfl
  obtain ⟨c, hcc⟩ := ex_bool12 (Acc ts cs f)
  have AD := fun (W : World) (x : Value) (h : IsD W x ts cs) => lacc12_is f h180 hcc W h; have AQ := fun (W : World) (x : Value) (h : IsD W x ts cs) => lacc12_is (Frm.req (f.r.moved12 n m hn hm)) h180 (hcc.trans (acc_moved12 hn hm hk hg.2.2).symm) W h
  have RQ := fun W => lreq12_is (f.r.moved12 n m hn hm) W
  rw [show (f.r.moved12 n m hn hm).tk = f.r.tk from rfl, show (f.r.moved12 n m hn hm).ep = n from rfl, show (f.r.moved12 n m hn hm).co = m from rfl] at RQ
  have DT : Hid ((mcell f).drop 1 = f.r.tk.v ++ (.int .u16 f.r.ep :: .int .u32 f.r.co :: ccell f.c)) := Lib.hid (mcell_t f); have SP := Lib.hid (size_tk f.r.tk)
  have nc : (c != c) = false := by simp
  have ec : (c == c) = true := by simp
  obtain ⟨G, hG⟩ : ∃ X, mcell (Frm.req (f.r.moved12 n m hn hm)) = X := ⟨_, rfl⟩
  rw [hG] at RQ AQ
  clear hG
  obtain ⟨P, hP⟩ : ∃ X, f.r.tk.v = X := ⟨_, rfl⟩
  rw [hP] at RQ DT SP
  clear hP
  obtain ⟨R, hR⟩ : ∃ X, (Value.int .u16 f.r.ep :: .int .u32 f.r.co :: ccell f.c) = X := ⟨_, rfl⟩
  rw [hR] at DT
  clear hR
  have HD := Lib.hid h1
  obtain ⟨v1, v2, rfl, g1, g2⟩ := id h1
  have SD := Lib.hid (size_id12 v1 v2)
  clear g1 g2 h1
  have SV := Lib.hid (size_tk t); have SU := Lib.hid (size_tk u); have SF := Lib.hid (size_frm f)
  obtain ⟨V, hV⟩ : ∃ X, t.v = X := ⟨_, rfl⟩
  rw [hV] at SV PA PY ⊢
  clear hV
  obtain ⟨U, hU⟩ : ∃ X, u.v = X := ⟨_, rfl⟩
  rw [hU] at SU PB PX ⊢
  clear hU
  obtain ⟨F, hF⟩ : ∃ X, mcell f = X := ⟨_, rfl⟩
  rw [hF] at SF FT v0 AD DT ⊢
  clear hF
  clear hl hg ha hb hx hy hk h180 hc ka kb za zb hh hn hm hcc
  go_enter Try.func7, Try.ntmps7
  go_upto_region 1 with fail
  refine F_gen (F := fun W => Code.wp _ _ _ _ W) (J := fun W => Box W (w.heap.size) ([v1, v2]) ∧ Box W (w.heap.size + 1) (V) ∧ Box W (w.heap.size + 2) (U) ∧ Box W (w.heap.size + 3) (F) ∧ Below w.heap.size w W) (And.intro (Box.alloc (Box.alloc (Box.alloc (Box.newc rfl rfl) _) _) _) (And.intro (Box.alloc (Box.alloc (Box.newc rfl (by simp)) _) _) (And.intro (Box.alloc (Box.newc rfl (by simp)) _) (And.intro (Box.newc rfl (by simp)) (by go_grown))))) ?_
  intro w0 ⟨e_d, e_t, e_u, e_f, hB0⟩
  have hs0 := hB0.size
  have x_d0 := e_d; clear e_d
  have x_t0 := e_t; clear e_t
  have x_u0 := e_u; clear e_u
  have x_f0 := e_f; clear e_f
  go_wp2_with (first
    | (refine wpList_load_box9 rfl _ _ rfl x_d0 rfl Try.underlying25 rfl SD.out ?_)
    | (refine wpList_load_box9 rfl _ _ rfl x_f0 rfl Try.underlying47 rfl SF.out ?_))
  refine (FT _ _ (HD.out.below hB0)).mono ?_
  rintro e w1 ⟨rfl, hb⟩
  have hB1 : Below w.heap.size w w1 := below_thru hB0 hb
  have hs1 := hB1.size
  have x_d1 : Box w1 (w.heap.size) ([v1, v2]) := Box.below x_d0 hb
  have x_t1 : Box w1 (w.heap.size + 1) (V) := Box.below x_t0 hb
  have x_u1 : Box w1 (w.heap.size + 2) (U) := Box.below x_u0 hb
  have x_f1 : Box w1 (w.heap.size + 3) (F) := Box.below x_f0 hb
  clear hB0 hs0 x_d0 x_t0 x_u0 x_f0
  clear hb
  go_wp2_with (first
    | (refine wpList_load_box9 rfl _ _ rfl x_d1 rfl Try.underlying25 rfl SD.out ?_)
    | (refine wpList_load_box9 rfl _ _ rfl x_t1 rfl Try.underlying34 rfl SV.out ?_))
  refine (PA _ _ (HD.out.below hB1)).mono ?_
  rintro e w2 ⟨x1a, x2a, rfl, o1a, o2a, hb⟩
  have Ia : Hid (IsD w2 (.agg #[x1a, x2a]) asA cs) := Lib.hid ⟨_, _, rfl, IsR.own o1a rfl rfl, IsR.own o2a rfl rfl⟩
  obtain ⟨p1a, n1a, rfl⟩ := own_slR o1a; obtain ⟨p2a, n2a, rfl⟩ := own_slR o2a
  have hB2 : Below w.heap.size w w2 := below_thru hB1 hb
  have hs2 := hB2.size
  have x_d2 : Box w2 (w.heap.size) ([v1, v2]) := Box.below x_d1 hb
  have x_t2 : Box w2 (w.heap.size + 1) (V) := Box.below x_t1 hb
  have x_u2 : Box w2 (w.heap.size + 2) (U) := Box.below x_u1 hb
  have x_f2 : Box w2 (w.heap.size + 3) (F) := Box.below x_f1 hb
  clear hB1 hs1 x_d1 x_t1 x_u1 x_f1
  clear hb
  clear o1a o2a
  have K_w2_2 : Below w2.heap.size w2 w2 := Below.refl _ _
  have d_a_d := (x_d2).lt
  have d_a_t := (x_t2).lt
  have d_a_u := (x_u2).lt
  have d_a_f := (x_f2).lt
  have d_a_0 := hs2
  go_upto_region 4 with (refine wpList_store_box (cs := [.slice p1a asA.length n1a, .slice p2a cs.length n2a]) rfl _ _ _ rfl (Box.newc (l := id0) rfl rfl) rfl rfl (size_id12 _ _) rfl (one_id12 _ _ _ _ _ _) ?_; intro W2_0 hW2_0)
  have hN : Below w2.heap.size w2 W2_0 := (hW2_0.below _ _ (by omega) ((Below.refl _ w2).alloc (Nat.le_refl _) _))
  have x_a3 : Box W2_0 (w2.heap.size) ([.slice p1a asA.length n1a, .slice p2a cs.length n2a]) := hW2_0.box
  have K_w2_3 : Below w2.heap.size w2 W2_0 := below_thru K_w2_2 hN
  clear K_w2_2
  have hB3 : Below w.heap.size w W2_0 := below_thru hB2 hN
  have hs3 := hB3.size
  have x_d3 : Box W2_0 (w.heap.size) ([v1, v2]) := Box.below x_d2 hN
  have x_t3 : Box W2_0 (w.heap.size + 1) (V) := Box.below x_t2 hN
  have x_u3 : Box W2_0 (w.heap.size + 2) (U) := Box.below x_u2 hN
  have x_f3 : Box W2_0 (w.heap.size + 3) (F) := Box.below x_f2 hN
  clear hB2 hs2 x_d2 x_t2 x_u2 x_f2
  clear hN hW2_0
  go_wp2_with (first
    | (refine wpList_load_box9 rfl _ _ rfl x_d3 rfl Try.underlying25 rfl SD.out ?_)
    | (refine wpList_load_box9 rfl _ _ rfl x_u3 rfl Try.underlying34 rfl SU.out ?_))
  refine (PB _ _ (HD.out.below hB3)).mono ?_
  rintro e w4 ⟨x1b, x2b, rfl, o1b, o2b, hb⟩
  have Ib : Hid (IsD w4 (.agg #[x1b, x2b]) bs cs) := Lib.hid ⟨_, _, rfl, IsR.own o1b rfl rfl, IsR.own o2b rfl rfl⟩
  obtain ⟨p1b, n1b, rfl⟩ := own_slR o1b; obtain ⟨p2b, n2b, rfl⟩ := own_slR o2b
  have K_w2_4 : Below w2.heap.size w2 w4 := below_thru K_w2_3 hb
  clear K_w2_3
  have hB4 : Below w.heap.size w w4 := below_thru hB3 hb
  have hs4 := hB4.size
  have x_d4 : Box w4 (w.heap.size) ([v1, v2]) := Box.below x_d3 hb
  have x_t4 : Box w4 (w.heap.size + 1) (V) := Box.below x_t3 hb
  have x_u4 : Box w4 (w.heap.size + 2) (U) := Box.below x_u3 hb
  have x_f4 : Box w4 (w.heap.size + 3) (F) := Box.below x_f3 hb
  have x_a4 : Box w4 (w2.heap.size) ([.slice p1a asA.length n1a, .slice p2a cs.length n2a]) := Box.below x_a3 hb
  clear hB3 hs3 x_d3 x_t3 x_u3 x_f3 x_a3
  clear hb
  clear o1b o2b
  have K_w4_4 : Below w4.heap.size w4 w4 := Below.refl _ _
  have d_b_d := (x_d4).lt
  have d_b_t := (x_t4).lt
  have d_b_u := (x_u4).lt
  have d_b_f := (x_f4).lt
  have d_b_a := (x_a4).lt
  have d_b_0 := hs4
  go_upto_region 5 with (refine wpList_store_box (cs := [.slice p1b bs.length n1b, .slice p2b cs.length n2b]) rfl _ _ _ rfl (Box.newc (l := id0) rfl rfl) rfl rfl (size_id12 _ _) rfl (one_id12 _ _ _ _ _ _) ?_; intro W4_0 hW4_0)
  have hN : Below w4.heap.size w4 W4_0 := (hW4_0.below _ _ (by omega) ((Below.refl _ w4).alloc (Nat.le_refl _) _))
  have x_b5 : Box W4_0 (w4.heap.size) ([.slice p1b bs.length n1b, .slice p2b cs.length n2b]) := hW4_0.box
  have K_w2_5 : Below w2.heap.size w2 W4_0 := below_thru K_w2_4 hN
  have K_w4_5 : Below w4.heap.size w4 W4_0 := below_thru K_w4_4 hN
  clear K_w2_4 K_w4_4
  have hB5 : Below w.heap.size w W4_0 := below_thru hB4 hN
  have hs5 := hB5.size
  have x_d5 : Box W4_0 (w.heap.size) ([v1, v2]) := Box.below x_d4 hN
  have x_t5 : Box W4_0 (w.heap.size + 1) (V) := Box.below x_t4 hN
  have x_u5 : Box W4_0 (w.heap.size + 2) (U) := Box.below x_u4 hN
  have x_f5 : Box W4_0 (w.heap.size + 3) (F) := Box.below x_f4 hN
  have x_a5 : Box W4_0 (w2.heap.size) ([.slice p1a asA.length n1a, .slice p2a cs.length n2a]) := Box.below x_a4 hN
  clear hB4 hs4 x_d4 x_t4 x_u4 x_f4 x_a4
  clear hN hW4_0
  go_wp2_with (first
    | (refine wpList_load_box9 rfl _ _ rfl x_a5 rfl Try.underlying25 rfl (size_id12 _ _) ?_)
    | (refine wpList_load_box9 rfl _ _ rfl x_u5 rfl Try.underlying34 rfl SU.out ?_))
  refine (PX _ _ (Ia.out.below K_w2_5)).mono ?_
  rintro e w6 ⟨x1x, x2x, rfl, o1x, o2x, hb⟩
  have Ix : Hid (IsD w6 (.agg #[x1x, x2x]) xs dx) := Lib.hid ⟨_, _, rfl, IsR.own o1x rfl rfl, IsR.own o2x rfl rfl⟩
  obtain ⟨p1x, n1x, rfl⟩ := own_slR o1x; obtain ⟨p2x, n2x, rfl⟩ := own_slR o2x
  have K_w2_6 : Below w2.heap.size w2 w6 := below_thru K_w2_5 hb
  have K_w4_6 : Below w4.heap.size w4 w6 := below_thru K_w4_5 hb
  clear K_w2_5 K_w4_5
  have hB6 : Below w.heap.size w w6 := below_thru hB5 hb
  have hs6 := hB6.size
  have x_d6 : Box w6 (w.heap.size) ([v1, v2]) := Box.below x_d5 hb
  have x_t6 : Box w6 (w.heap.size + 1) (V) := Box.below x_t5 hb
  have x_u6 : Box w6 (w.heap.size + 2) (U) := Box.below x_u5 hb
  have x_f6 : Box w6 (w.heap.size + 3) (F) := Box.below x_f5 hb
  have x_a6 : Box w6 (w2.heap.size) ([.slice p1a asA.length n1a, .slice p2a cs.length n2a]) := Box.below x_a5 hb
  have x_b6 : Box w6 (w4.heap.size) ([.slice p1b bs.length n1b, .slice p2b cs.length n2b]) := Box.below x_b5 hb
  clear hB5 hs5 x_d5 x_t5 x_u5 x_f5 x_a5 x_b5
  clear hb
  clear o1x o2x
  have K_w6_6 : Below w6.heap.size w6 w6 := Below.refl _ _
  have d_x_d := (x_d6).lt
  have d_x_t := (x_t6).lt
  have d_x_u := (x_u6).lt
  have d_x_f := (x_f6).lt
  have d_x_a := (x_a6).lt
  have d_x_b := (x_b6).lt
  have d_x_0 := hs6
  go_upto_region 8 with (refine wpList_store_box (cs := [.slice p1x xs.length n1x, .slice p2x dx.length n2x]) rfl _ _ _ rfl (Box.newc (l := id0) rfl rfl) rfl rfl (size_id12 _ _) rfl (one_id12 _ _ _ _ _ _) ?_; intro W6_0 hW6_0)
  have hN : Below w6.heap.size w6 W6_0 := (hW6_0.below _ _ (by omega) ((Below.refl _ w6).alloc (Nat.le_refl _) _))
  have x_x7 : Box W6_0 (w6.heap.size) ([.slice p1x xs.length n1x, .slice p2x dx.length n2x]) := hW6_0.box
  have K_w2_7 : Below w2.heap.size w2 W6_0 := below_thru K_w2_6 hN
  have K_w4_7 : Below w4.heap.size w4 W6_0 := below_thru K_w4_6 hN
  have K_w6_7 : Below w6.heap.size w6 W6_0 := below_thru K_w6_6 hN
  clear K_w2_6 K_w4_6 K_w6_6
  have hB7 : Below w.heap.size w W6_0 := below_thru hB6 hN
  have hs7 := hB7.size
  have x_d7 : Box W6_0 (w.heap.size) ([v1, v2]) := Box.below x_d6 hN
  have x_t7 : Box W6_0 (w.heap.size + 1) (V) := Box.below x_t6 hN
  have x_u7 : Box W6_0 (w.heap.size + 2) (U) := Box.below x_u6 hN
  have x_f7 : Box W6_0 (w.heap.size + 3) (F) := Box.below x_f6 hN
  have x_a7 : Box W6_0 (w2.heap.size) ([.slice p1a asA.length n1a, .slice p2a cs.length n2a]) := Box.below x_a6 hN
  have x_b7 : Box W6_0 (w4.heap.size) ([.slice p1b bs.length n1b, .slice p2b cs.length n2b]) := Box.below x_b6 hN
  clear hB6 hs6 x_d6 x_t6 x_u6 x_f6 x_a6 x_b6
  clear hN hW6_0
  clear K_w2_7
  clear x_a7
  clear x_u7
  clear Ia
  go_wp2_with (first
    | (refine wpList_load_box9 rfl _ _ rfl x_b7 rfl Try.underlying25 rfl (size_id12 _ _) ?_)
    | (refine wpList_load_box9 rfl _ _ rfl x_t7 rfl Try.underlying34 rfl SV.out ?_))
  refine (PY _ _ (Ib.out.below K_w4_7)).mono ?_
  rintro e w8 ⟨x1y, x2y, rfl, o1y, o2y, hb⟩
  have Iy : Hid (IsD w8 (.agg #[x1y, x2y]) ys dy) := Lib.hid ⟨_, _, rfl, IsR.own o1y rfl rfl, IsR.own o2y rfl rfl⟩
  obtain ⟨p1y, n1y, rfl⟩ := own_slR o1y; obtain ⟨p2y, n2y, rfl⟩ := own_slR o2y
  have K_w4_8 : Below w4.heap.size w4 w8 := below_thru K_w4_7 hb
  have K_w6_8 : Below w6.heap.size w6 w8 := below_thru K_w6_7 hb
  clear K_w4_7 K_w6_7
  have hB8 : Below w.heap.size w w8 := below_thru hB7 hb
  have hs8 := hB8.size
  have x_d8 : Box w8 (w.heap.size) ([v1, v2]) := Box.below x_d7 hb
  have x_t8 : Box w8 (w.heap.size + 1) (V) := Box.below x_t7 hb
  have x_f8 : Box w8 (w.heap.size + 3) (F) := Box.below x_f7 hb
  have x_b8 : Box w8 (w4.heap.size) ([.slice p1b bs.length n1b, .slice p2b cs.length n2b]) := Box.below x_b7 hb
  have x_x8 : Box w8 (w6.heap.size) ([.slice p1x xs.length n1x, .slice p2x dx.length n2x]) := Box.below x_x7 hb
  clear hB7 hs7 x_d7 x_t7 x_f7 x_b7 x_x7
  clear hb
  clear o1y o2y
  have K_w8_8 : Below w8.heap.size w8 w8 := Below.refl _ _
  have d_y_d := (x_d8).lt
  have d_y_t := (x_t8).lt
  have d_y_f := (x_f8).lt
  have d_y_b := (x_b8).lt
  have d_y_x := (x_x8).lt
  have d_y_0 := hs8
  go_upto_region 9 with (refine wpList_store_box (cs := [.slice p1y ys.length n1y, .slice p2y dy.length n2y]) rfl _ _ _ rfl (Box.newc (l := id0) rfl rfl) rfl rfl (size_id12 _ _) rfl (one_id12 _ _ _ _ _ _) ?_; intro W8_0 hW8_0)
  have hN : Below w8.heap.size w8 W8_0 := (hW8_0.below _ _ (by omega) ((Below.refl _ w8).alloc (Nat.le_refl _) _))
  have x_y9 : Box W8_0 (w8.heap.size) ([.slice p1y ys.length n1y, .slice p2y dy.length n2y]) := hW8_0.box
  have K_w4_9 : Below w4.heap.size w4 W8_0 := below_thru K_w4_8 hN
  have K_w6_9 : Below w6.heap.size w6 W8_0 := below_thru K_w6_8 hN
  have K_w8_9 : Below w8.heap.size w8 W8_0 := below_thru K_w8_8 hN
  clear K_w4_8 K_w6_8 K_w8_8
  have hB9 : Below w.heap.size w W8_0 := below_thru hB8 hN
  have hs9 := hB9.size
  have x_d9 : Box W8_0 (w.heap.size) ([v1, v2]) := Box.below x_d8 hN
  have x_t9 : Box W8_0 (w.heap.size + 1) (V) := Box.below x_t8 hN
  have x_f9 : Box W8_0 (w.heap.size + 3) (F) := Box.below x_f8 hN
  have x_b9 : Box W8_0 (w4.heap.size) ([.slice p1b bs.length n1b, .slice p2b cs.length n2b]) := Box.below x_b8 hN
  have x_x9 : Box W8_0 (w6.heap.size) ([.slice p1x xs.length n1x, .slice p2x dx.length n2x]) := Box.below x_x8 hN
  clear hB8 hs8 x_d8 x_t8 x_f8 x_b8 x_x8
  clear hN hW8_0
  clear K_w4_9
  clear x_b9
  clear x_t9
  clear Ib
  go_upto_region 11 with fail
  clear K_w6_9
  clear K_w8_9
  clear x_x9
  clear x_y9
  clear Ix Iy
  refine wp_region_held_drew (S := fun W => Box W (w.heap.size) ([v1, v2]) ∧ Box W (w.heap.size + 3) (F)) (by kernel_rfl) (And.intro (x_d9).drew (x_f9).drew) (fun _ => ?_)
  refine F_drew (F := fun W => wpAnyH _ _ _ _ _ _ _ _ W) ?_
  intro Wp0 hbp0
  clear hs9
  have x_d_p0 : Box Wp0 (w.heap.size) ([v1, v2]) := Box.below x_d9 hbp0
  have x_f_p0 : Box Wp0 (w.heap.size + 3) (F) := Box.below x_f9 hbp0
  have Bp0 := below_thru hB9 hbp0
  clear x_d9 x_f9 hB9 hbp0
  refine takeH 0 60 (v := ?vp0_1) rfl (by rfl) (by kernel_rfl) (by kernel_rfl) (by kernel_rfl) (fun _ _ _ h => h) (Or.inl ⟨by rfl, ?_⟩) ((And.intro x_d_p0 x_f_p0)) ?_
  rotate_left
  · intro wq hSq
    go_simp
    exact rfl
  try simp only [Act.put, List.setIfInBounds_toArray, List.set_cons_zero, List.set_cons_succ]
  refine takeH 1 61 (v := ?vp1_2) rfl (by rfl) (by kernel_rfl) (by kernel_rfl) (by kernel_rfl) (fun _ _ _ h => h) (Or.inl ⟨by rfl, ?_⟩) ((And.intro x_d_p0 x_f_p0)) ?_
  rotate_left
  · intro wq hSq
    go_simp
    exact rfl
  try simp only [Act.put, List.setIfInBounds_toArray, List.set_cons_zero, List.set_cons_succ]
  refine takeH 2 62 (v := ?vp2_3) rfl (by rfl) (by kernel_rfl) (by kernel_rfl) (by kernel_rfl) (fun _ _ _ h => h) (Or.inl ⟨by rfl, ?_⟩) ((And.intro x_d_p0 x_f_p0)) ?_
  rotate_left
  · intro wq hSq
    go_simp
    exact rfl
  try simp only [Act.put, List.setIfInBounds_toArray, List.set_cons_zero, List.set_cons_succ]
  refine takeH 3 63 (v := undef) rfl (by rfl) (by kernel_rfl) (by kernel_rfl) (by kernel_rfl) (fun _ _ _ h => h) (Or.inr ⟨by rfl, rfl⟩) ((And.intro x_d_p0 x_f_p0)) ?_
  try simp only [Act.put, List.setIfInBounds_toArray, List.set_cons_zero, List.set_cons_succ]
  refine takeH 4 64 (v := undef) rfl (by rfl) (by kernel_rfl) (by kernel_rfl) (by kernel_rfl) (fun _ _ _ h => h) (Or.inr ⟨by rfl, rfl⟩) ((And.intro x_d_p0 x_f_p0)) ?_
  try simp only [Act.put, List.setIfInBounds_toArray, List.set_cons_zero, List.set_cons_succ]
  refine takeH 5 65 (v := undef) rfl (by rfl) (by kernel_rfl) (by kernel_rfl) (by kernel_rfl) (fun _ _ _ h => h) (Or.inr ⟨by rfl, rfl⟩) ((And.intro x_d_p0 x_f_p0)) ?_
  try simp only [Act.put, List.setIfInBounds_toArray, List.set_cons_zero, List.set_cons_succ]
  refine takeH 6 66 (v := undef) rfl (by rfl) (by kernel_rfl) (by kernel_rfl) (by kernel_rfl) (fun _ _ _ h => h) (Or.inr ⟨by rfl, rfl⟩) ((And.intro x_d_p0 x_f_p0)) ?_
  try simp only [Act.put, List.setIfInBounds_toArray, List.set_cons_zero, List.set_cons_succ]
  refine takeH 7 67 (v := undef) rfl (by rfl) (by kernel_rfl) (by kernel_rfl) (by kernel_rfl) (fun _ _ _ h => h) (Or.inr ⟨by rfl, rfl⟩) ((And.intro x_d_p0 x_f_p0)) ?_
  try simp only [Act.put, List.setIfInBounds_toArray, List.set_cons_zero, List.set_cons_succ]
  refine takeH 8 68 (v := undef) rfl (by rfl) (by kernel_rfl) (by kernel_rfl) (by kernel_rfl) (fun _ _ _ h => h) (Or.inr ⟨by rfl, rfl⟩) ((And.intro x_d_p0 x_f_p0)) ?_
  try simp only [Act.put, List.setIfInBounds_toArray, List.set_cons_zero, List.set_cons_succ]
  refine takeH 9 69 (v := undef) rfl (by rfl) (by kernel_rfl) (by kernel_rfl) (by kernel_rfl) (fun _ _ _ h => h) (Or.inr ⟨by rfl, rfl⟩) ((And.intro x_d_p0 x_f_p0)) ?_
  try simp only [Act.put, List.setIfInBounds_toArray, List.set_cons_zero, List.set_cons_succ]
  refine takeH 10 70 (v := ?vp10_4) rfl (by rfl) (by kernel_rfl) (by kernel_rfl) (by kernel_rfl) (fun _ _ _ h => h) (Or.inl ⟨by rfl, ?_⟩) ((And.intro x_d_p0 x_f_p0)) ?_
  rotate_left
  · intro wq hSq
    go_simp
    exact rfl
  try simp only [Act.put, List.setIfInBounds_toArray, List.set_cons_zero, List.set_cons_succ]
  refine wpAnyH_done (by kernel_rfl) ?_ _
  have hB10 := Bp0; have hs10 := hB10.size
  have x_d10 := x_d_p0
  have x_f10 := x_f_p0
  clear Bp0 x_d_p0 x_f_p0
  go_upto_region 13 with fail
  refine wp_region_held_drew (S := fun W => Box W (w.heap.size) ([v1, v2]) ∧ Box W (w.heap.size + 3) (F)) (by kernel_rfl) (And.intro (x_d10).drew (x_f10).drew) (fun _ => ?_)
  refine F_drew (F := fun W => wpAnyH _ _ _ _ _ _ _ _ W) ?_
  intro Wq0 hbq0
  clear hs10
  have x_d_q0 : Box Wq0 (w.heap.size) ([v1, v2]) := Box.below x_d10 hbq0
  have x_f_q0 : Box Wq0 (w.heap.size + 3) (F) := Box.below x_f10 hbq0
  have Bq0 := below_thru hB10 hbq0
  clear x_d10 x_f10 hB10 hbq0
  refine takeH 0 71 (v := ?vq0_1) rfl (by rfl) (by kernel_rfl) (by kernel_rfl) (by kernel_rfl) (fun _ _ _ h => h) (Or.inl ⟨by rfl, ?_⟩) ((And.intro x_d_q0 x_f_q0)) ?_
  rotate_left
  · intro wq hSq
    go_simp
    exact rfl
  try simp only [Act.put, List.setIfInBounds_toArray, List.set_cons_zero, List.set_cons_succ]
  refine takeH 1 72 (v := ?vq1_2) rfl (by rfl) (by kernel_rfl) (by kernel_rfl) (by kernel_rfl) (fun _ _ _ h => h) (Or.inl ⟨by rfl, ?_⟩) ((And.intro x_d_q0 x_f_q0)) ?_
  rotate_left
  · intro wq hSq
    have cq := (hSq.2).c 0 _ v0
    have zq := lt_of_cell cq
    go_simp
    exact rfl
  try simp only [Act.put, List.setIfInBounds_toArray, List.set_cons_zero, List.set_cons_succ]
  refine takeH 2 73 (v := ?vq2_3) rfl (by rfl) (by kernel_rfl) (by kernel_rfl) (by kernel_rfl) (fun _ _ _ h => h) (Or.inl ⟨by rfl, ?_⟩) ((And.intro x_d_q0 x_f_q0)) ?_
  rotate_left
  · intro wq hSq
    go_simp
    exact rfl
  try simp only [Act.put, List.setIfInBounds_toArray, List.set_cons_zero, List.set_cons_succ]
  refine takeH 3 74 (v := ?vq3_4) rfl (by rfl) (by kernel_rfl) (by kernel_rfl) (by kernel_rfl) (fun _ _ _ h => h) (Or.inl ⟨by rfl, ?_⟩) ((And.intro x_d_q0 x_f_q0)) ?_
  rotate_left
  · intro wq hSq
    go_simp
    exact rfl
  try simp only [Act.put, List.setIfInBounds_toArray, List.set_cons_zero, List.set_cons_succ]
  refine takeH 8 79 (v := ?vq8_5) rfl (by rfl) (by kernel_rfl) (by kernel_rfl) (by kernel_rfl) (fun _ _ _ h => h) (Or.inl ⟨by rfl, ?_⟩) ((And.intro x_d_q0 x_f_q0)) ?_
  rotate_left
  · intro wq hSq
    go_simp
    exact rfl
  try simp only [Act.put, List.setIfInBounds_toArray, List.set_cons_zero, List.set_cons_succ]
  refine takeH 9 80 (v := ?vq9_6) rfl (by rfl) (by kernel_rfl) (by kernel_rfl) (by kernel_rfl) (fun _ _ _ h => h) (Or.inl ⟨by rfl, ?_⟩) ((And.intro x_d_q0 x_f_q0)) ?_
  rotate_left
  · intro wq hSq
    go_simp
    exact rfl
  try simp only [Act.put, List.setIfInBounds_toArray, List.set_cons_zero, List.set_cons_succ]
  refine takeH 11 82 (v := ?vq11_7) rfl (by rfl) (by kernel_rfl) (by kernel_rfl) (by kernel_rfl) (fun _ _ _ h => h) (Or.inl ⟨by rfl, ?_⟩) ((And.intro x_d_q0 x_f_q0)) ?_
  rotate_left
  · intro wq hSq
    go_simp
    exact rfl
  try simp only [Act.put, List.setIfInBounds_toArray, List.set_cons_zero, List.set_cons_succ]
  refine takeH 12 83 (v := ?vq12_8) rfl (by rfl) (by kernel_rfl) (by kernel_rfl) (by kernel_rfl) (fun _ _ _ h => h) (Or.inl ⟨by rfl, ?_⟩) ((And.intro x_d_q0 x_f_q0)) ?_
  rotate_left
  · intro wq hSq
    go_simp
    exact rfl
  try simp only [Act.put, List.setIfInBounds_toArray, List.set_cons_zero, List.set_cons_succ]
  refine takeH 4 75 (v := .agg ([v1, v2]).toArray) rfl (by rfl) (by kernel_rfl) (by kernel_rfl) (by kernel_rfl) (fun _ _ _ h => h) (yieldsIf_load_mid (by rfl) _ _ rfl _ _ rfl ([v1, v2]) _ (fun wq hq => Box.range (hq.1)) Try.underlying25 rfl SD.out) ((And.intro x_d_q0 x_f_q0)) ?_
  try simp only [Act.put, List.setIfInBounds_toArray, List.set_cons_zero, List.set_cons_succ]
  refine takeH 5 76 (v := .agg (F).toArray) rfl (by rfl) (by kernel_rfl) (by kernel_rfl) (by kernel_rfl) (fun _ _ _ h => h) (yieldsIf_load_mid (by rfl) _ _ rfl _ _ rfl (F) _ (fun wq hq => Box.range (hq.2)) Try.underlying47 rfl SF.out) ((And.intro x_d_q0 x_f_q0)) ?_
  try simp only [Act.put, List.setIfInBounds_toArray, List.set_cons_zero, List.set_cons_succ]
  refine takeH 7 78 (v := .agg ([v1, v2]).toArray) rfl (by rfl) (by kernel_rfl) (by kernel_rfl) (by kernel_rfl) (fun _ _ _ h => h) (yieldsIf_load_mid (by rfl) _ _ rfl _ _ rfl ([v1, v2]) _ (fun wq hq => Box.range (hq.1)) Try.underlying25 rfl SD.out) ((And.intro x_d_q0 x_f_q0)) ?_
  try simp only [Act.put, List.setIfInBounds_toArray, List.set_cons_zero, List.set_cons_succ]
  refine takeH 10 81 (v := .agg (P).toArray) rfl (by rfl) (by kernel_rfl) (by kernel_rfl) (by kernel_rfl) (fun _ _ _ h => h) (yieldsIf_load_mid (by rfl) _ _ rfl _ _ rfl (P) _ (fun wq hq => Box.rangeMid (hq.2) 1 (P) (R) DT.out) Try.underlying34 rfl SP.out) ((And.intro x_d_q0 x_f_q0)) ?_
  try simp only [Act.put, List.setIfInBounds_toArray, List.set_cons_zero, List.set_cons_succ]
  refine wpAnyH_ready (rs := [6]) (by kernel_rfl) (by simp) (AllReadyH.cons rfl (fun K hK => ?_) AllReadyH.nil)
  go_simp
  refine (AD _ _ (HD.out.below Bq0)).mono ?_
  rintro e Wq9 ⟨rfl, hbq9⟩
  have x_d_q9 : Box Wq9 (w.heap.size) ([v1, v2]) := Box.below x_d_q0 hbq9
  have x_f_q9 : Box Wq9 (w.heap.size + 3) (F) := Box.below x_f_q0 hbq9
  have Bq9 := below_thru Bq0 hbq9
  clear x_d_q0 x_f_q0 Bq0 hbq9
  refine hK.out _ _ (And.intro x_d_q9 x_f_q9) (fun _ => ?_); clear hK K
  refine wpAnyH_ready (rs := [13]) (by kernel_rfl) (by simp) (AllReadyH.cons rfl (fun K hK => ?_) AllReadyH.nil)
  go_simp
  refine (RQ _).mono ?_
  rintro e Wq10 ⟨rfl, hbq10⟩
  have x_d_q10 : Box Wq10 (w.heap.size) ([v1, v2]) := Box.below x_d_q9 hbq10
  have x_f_q10 : Box Wq10 (w.heap.size + 3) (F) := Box.below x_f_q9 hbq10
  have Bq10 := below_thru Bq9 hbq10
  clear x_d_q9 x_f_q9 Bq9 hbq10
  refine hK.out _ _ (And.intro x_d_q10 x_f_q10) (fun _ => ?_); clear hK K
  refine wpAnyH_ready (rs := [14]) (by kernel_rfl) (by simp) (AllReadyH.cons rfl (fun K hK => ?_) AllReadyH.nil)
  go_simp
  refine (AQ _ _ (HD.out.below Bq10)).mono ?_
  rintro e Wq11 ⟨rfl, hbq11⟩
  have x_d_q11 : Box Wq11 (w.heap.size) ([v1, v2]) := Box.below x_d_q10 hbq11
  have x_f_q11 : Box Wq11 (w.heap.size + 3) (F) := Box.below x_f_q10 hbq11
  have Bq11 := below_thru Bq10 hbq11
  clear x_d_q10 x_f_q10 Bq10 hbq11
  refine hK.out _ _ (And.intro x_d_q11 x_f_q11) (fun _ => ?_); clear hK K
  refine takeH 15 86 (v := ?vq15_12) rfl (by rfl) (by kernel_rfl) (by kernel_rfl) (by kernel_rfl) (fun _ _ _ h => h) (Or.inl ⟨by rfl, ?_⟩) ((And.intro x_d_q11 x_f_q11)) ?_
  rotate_left
  · intro wq hSq
    go_simp
    exact rfl
  try simp only [Act.put, List.setIfInBounds_toArray, List.set_cons_zero, List.set_cons_succ]
  refine takeH 16 87 (v := ?vq16_13) rfl (by rfl) (by kernel_rfl) (by kernel_rfl) (by kernel_rfl) (fun _ _ _ h => h) (Or.inl ⟨by rfl, ?_⟩) ((And.intro x_d_q11 x_f_q11)) ?_
  rotate_left
  · intro wq hSq
    go_simp
    exact rfl
  try simp only [Act.put, List.setIfInBounds_toArray, List.set_cons_zero, List.set_cons_succ]
  refine wpAnyH_done (by kernel_rfl) ?_ _
  have hB11 := Bq11; have hs11 := hB11.size
  have x_d11 := x_d_q11
  have x_f11 := x_f_q11
  clear Bq11 x_d_q11 x_f_q11
  go_wp2_with fail
  refine (AL _).mono ?_
  rintro e w12 ⟨rfl, hb⟩
  have hB12 : Below w.heap.size w w12 := below_thru hB11 hb
  have hs12 := hB12.size
  have x_d12 : Box w12 (w.heap.size) ([v1, v2]) := Box.below x_d11 hb
  have x_f12 : Box w12 (w.heap.size + 3) (F) := Box.below x_f11 hb
  clear hB11 hs11 x_d11 x_f11
  clear hb
  go_wp2_with fail
  go_returns
  exact ⟨rfl, hB12⟩

set_option maxRecDepth 100000 in
set_option maxHeartbeats 6400000 in
theorem order12_1c {v : Value} {ts : List Tk} {cs : List Cmd} (t u : Tk) (f : Frm) {n m : Int} (hl : ts.length + cs.length ≤ 1000000000000000) (hg : FitD ts cs f) {asA bs xs ys : List Tk} {dx dy : List Cmd} {h : Int} (ha : PutT ts cs t asA cs 0) (hb : PutT ts cs u bs cs 0) (hx : PutT asA cs u xs dx h) (hy : PutT bs cs t ys dy h) (hh : h ≠ 0) (hk : f.kd = 2) (w : World) (h1 : IsD w v ts cs) : Calls Try.prog 7 #[v, .agg t.v.toArray, .agg u.v.toArray, .agg (mcell f).toArray, .int .u16 n, .int .u32 m] w fun e w' => e = .returned (.bool true) ∧ Below w.heap.size w w' := by
  have FT := fun (W : World) (x : Value) (h : IsD W x ts cs) => lfit12_is f hl (b := true) (⟨fun _ => hg, fun _ => rfl⟩) W h; have AL := fun W => alive12_is W
  have h180 := not_grt hg.1; have hc := hg.2.1
  have PA := fun (W : World) (x : Value) (h : IsD W x ts cs) => ptok_is t h180 ha W h; have PB := fun (W : World) (x : Value) (h : IsD W x ts cs) => ptok_is u h180 hb W h
  have ka := (ha.then12 hc).1; have kb := (hb.then12 hc).1; have za := ka.z12.1; have zb := kb.z12.1
  have PX := fun (W : World) (x : Value) (h : IsD W x asA cs) => ptok_is u (by omega) hx W h; have PY := fun (W : World) (x : Value) (h : IsD W x bs cs) => ptok_is t (by omega) hy W h
  have d1 : (h == 0) = false := by simpa using hh
  have n1 : (h != h) = false := by simp
  have n2 : (h == h) = true := by simp
  have v0 : (mcell f)[0]? = some (.int .u8 2) := by rw [← hk]; rfl
  have HD := Lib.hid h1
  obtain ⟨v1, v2, rfl, g1, g2⟩ := id h1
  have SD := Lib.hid (size_id12 v1 v2)
  clear g1 g2 h1
  have SV := Lib.hid (size_tk t); have SU := Lib.hid (size_tk u); have SF := Lib.hid (size_frm f)
  obtain ⟨V, hV⟩ : ∃ X, t.v = X := ⟨_, rfl⟩
  rw [hV] at SV PA PY ⊢
  clear hV
  obtain ⟨U, hU⟩ : ∃ X, u.v = X := ⟨_, rfl⟩
  rw [hU] at SU PB PX ⊢
  clear hU
  obtain ⟨F, hF⟩ : ∃ X, mcell f = X := ⟨_, rfl⟩
  rw [hF] at SF FT v0 ⊢
  clear hF
  clear hl hg ha hb hx hy hk h180 hc ka kb za zb hh
  go_enter Try.func7, Try.ntmps7
  go_upto_region 1 with fail
  refine F_gen (F := fun W => Code.wp _ _ _ _ W) (J := fun W => Box W (w.heap.size) ([v1, v2]) ∧ Box W (w.heap.size + 1) (V) ∧ Box W (w.heap.size + 2) (U) ∧ Box W (w.heap.size + 3) (F) ∧ Below w.heap.size w W) (And.intro (Box.alloc (Box.alloc (Box.alloc (Box.newc rfl rfl) _) _) _) (And.intro (Box.alloc (Box.alloc (Box.newc rfl (by simp)) _) _) (And.intro (Box.alloc (Box.newc rfl (by simp)) _) (And.intro (Box.newc rfl (by simp)) (by go_grown))))) ?_
  intro w0 ⟨e_d, e_t, e_u, e_f, hB0⟩
  have hs0 := hB0.size
  have x_d0 := e_d; clear e_d
  have x_t0 := e_t; clear e_t
  have x_u0 := e_u; clear e_u
  have x_f0 := e_f; clear e_f
  go_wp2_with (first
    | (refine wpList_load_box9 rfl _ _ rfl x_d0 rfl Try.underlying25 rfl SD.out ?_)
    | (refine wpList_load_box9 rfl _ _ rfl x_f0 rfl Try.underlying47 rfl SF.out ?_))
  refine (FT _ _ (HD.out.below hB0)).mono ?_
  rintro e w1 ⟨rfl, hb⟩
  have hB1 : Below w.heap.size w w1 := below_thru hB0 hb
  have hs1 := hB1.size
  have x_d1 : Box w1 (w.heap.size) ([v1, v2]) := Box.below x_d0 hb
  have x_t1 : Box w1 (w.heap.size + 1) (V) := Box.below x_t0 hb
  have x_u1 : Box w1 (w.heap.size + 2) (U) := Box.below x_u0 hb
  have x_f1 : Box w1 (w.heap.size + 3) (F) := Box.below x_f0 hb
  clear hB0 hs0 x_d0 x_t0 x_u0 x_f0
  clear hb
  go_wp2_with (first
    | (refine wpList_load_box9 rfl _ _ rfl x_d1 rfl Try.underlying25 rfl SD.out ?_)
    | (refine wpList_load_box9 rfl _ _ rfl x_t1 rfl Try.underlying34 rfl SV.out ?_))
  refine (PA _ _ (HD.out.below hB1)).mono ?_
  rintro e w2 ⟨x1a, x2a, rfl, o1a, o2a, hb⟩
  have Ia : Hid (IsD w2 (.agg #[x1a, x2a]) asA cs) := Lib.hid ⟨_, _, rfl, IsR.own o1a rfl rfl, IsR.own o2a rfl rfl⟩
  obtain ⟨p1a, n1a, rfl⟩ := own_slR o1a; obtain ⟨p2a, n2a, rfl⟩ := own_slR o2a
  have hB2 : Below w.heap.size w w2 := below_thru hB1 hb
  have hs2 := hB2.size
  have x_d2 : Box w2 (w.heap.size) ([v1, v2]) := Box.below x_d1 hb
  have x_t2 : Box w2 (w.heap.size + 1) (V) := Box.below x_t1 hb
  have x_u2 : Box w2 (w.heap.size + 2) (U) := Box.below x_u1 hb
  have x_f2 : Box w2 (w.heap.size + 3) (F) := Box.below x_f1 hb
  clear hB1 hs1 x_d1 x_t1 x_u1 x_f1
  clear hb
  clear o1a o2a
  have K_w2_2 : Below w2.heap.size w2 w2 := Below.refl _ _
  have d_a_d := (x_d2).lt
  have d_a_t := (x_t2).lt
  have d_a_u := (x_u2).lt
  have d_a_f := (x_f2).lt
  have d_a_0 := hs2
  go_upto_region 4 with (refine wpList_store_box (cs := [.slice p1a asA.length n1a, .slice p2a cs.length n2a]) rfl _ _ _ rfl (Box.newc (l := id0) rfl rfl) rfl rfl (size_id12 _ _) rfl (one_id12 _ _ _ _ _ _) ?_; intro W2_0 hW2_0)
  have hN : Below w2.heap.size w2 W2_0 := (hW2_0.below _ _ (by omega) ((Below.refl _ w2).alloc (Nat.le_refl _) _))
  have x_a3 : Box W2_0 (w2.heap.size) ([.slice p1a asA.length n1a, .slice p2a cs.length n2a]) := hW2_0.box
  have K_w2_3 : Below w2.heap.size w2 W2_0 := below_thru K_w2_2 hN
  clear K_w2_2
  have hB3 : Below w.heap.size w W2_0 := below_thru hB2 hN
  have hs3 := hB3.size
  have x_d3 : Box W2_0 (w.heap.size) ([v1, v2]) := Box.below x_d2 hN
  have x_t3 : Box W2_0 (w.heap.size + 1) (V) := Box.below x_t2 hN
  have x_u3 : Box W2_0 (w.heap.size + 2) (U) := Box.below x_u2 hN
  have x_f3 : Box W2_0 (w.heap.size + 3) (F) := Box.below x_f2 hN
  clear hB2 hs2 x_d2 x_t2 x_u2 x_f2
  clear hN hW2_0
  go_wp2_with (first
    | (refine wpList_load_box9 rfl _ _ rfl x_d3 rfl Try.underlying25 rfl SD.out ?_)
    | (refine wpList_load_box9 rfl _ _ rfl x_u3 rfl Try.underlying34 rfl SU.out ?_))
  refine (PB _ _ (HD.out.below hB3)).mono ?_
  rintro e w4 ⟨x1b, x2b, rfl, o1b, o2b, hb⟩
  have Ib : Hid (IsD w4 (.agg #[x1b, x2b]) bs cs) := Lib.hid ⟨_, _, rfl, IsR.own o1b rfl rfl, IsR.own o2b rfl rfl⟩
  obtain ⟨p1b, n1b, rfl⟩ := own_slR o1b; obtain ⟨p2b, n2b, rfl⟩ := own_slR o2b
  have K_w2_4 : Below w2.heap.size w2 w4 := below_thru K_w2_3 hb
  clear K_w2_3
  have hB4 : Below w.heap.size w w4 := below_thru hB3 hb
  have hs4 := hB4.size
  have x_d4 : Box w4 (w.heap.size) ([v1, v2]) := Box.below x_d3 hb
  have x_t4 : Box w4 (w.heap.size + 1) (V) := Box.below x_t3 hb
  have x_u4 : Box w4 (w.heap.size + 2) (U) := Box.below x_u3 hb
  have x_f4 : Box w4 (w.heap.size + 3) (F) := Box.below x_f3 hb
  have x_a4 : Box w4 (w2.heap.size) ([.slice p1a asA.length n1a, .slice p2a cs.length n2a]) := Box.below x_a3 hb
  clear hB3 hs3 x_d3 x_t3 x_u3 x_f3 x_a3
  clear hb
  clear o1b o2b
  have K_w4_4 : Below w4.heap.size w4 w4 := Below.refl _ _
  have d_b_d := (x_d4).lt
  have d_b_t := (x_t4).lt
  have d_b_u := (x_u4).lt
  have d_b_f := (x_f4).lt
  have d_b_a := (x_a4).lt
  have d_b_0 := hs4
  go_upto_region 5 with (refine wpList_store_box (cs := [.slice p1b bs.length n1b, .slice p2b cs.length n2b]) rfl _ _ _ rfl (Box.newc (l := id0) rfl rfl) rfl rfl (size_id12 _ _) rfl (one_id12 _ _ _ _ _ _) ?_; intro W4_0 hW4_0)
  have hN : Below w4.heap.size w4 W4_0 := (hW4_0.below _ _ (by omega) ((Below.refl _ w4).alloc (Nat.le_refl _) _))
  have x_b5 : Box W4_0 (w4.heap.size) ([.slice p1b bs.length n1b, .slice p2b cs.length n2b]) := hW4_0.box
  have K_w2_5 : Below w2.heap.size w2 W4_0 := below_thru K_w2_4 hN
  have K_w4_5 : Below w4.heap.size w4 W4_0 := below_thru K_w4_4 hN
  clear K_w2_4 K_w4_4
  have hB5 : Below w.heap.size w W4_0 := below_thru hB4 hN
  have hs5 := hB5.size
  have x_d5 : Box W4_0 (w.heap.size) ([v1, v2]) := Box.below x_d4 hN
  have x_t5 : Box W4_0 (w.heap.size + 1) (V) := Box.below x_t4 hN
  have x_u5 : Box W4_0 (w.heap.size + 2) (U) := Box.below x_u4 hN
  have x_f5 : Box W4_0 (w.heap.size + 3) (F) := Box.below x_f4 hN
  have x_a5 : Box W4_0 (w2.heap.size) ([.slice p1a asA.length n1a, .slice p2a cs.length n2a]) := Box.below x_a4 hN
  clear hB4 hs4 x_d4 x_t4 x_u4 x_f4 x_a4
  clear hN hW4_0
  go_wp2_with (first
    | (refine wpList_load_box9 rfl _ _ rfl x_a5 rfl Try.underlying25 rfl (size_id12 _ _) ?_)
    | (refine wpList_load_box9 rfl _ _ rfl x_u5 rfl Try.underlying34 rfl SU.out ?_))
  refine (PX _ _ (Ia.out.below K_w2_5)).mono ?_
  rintro e w6 ⟨x1x, x2x, rfl, o1x, o2x, hb⟩
  have Ix : Hid (IsD w6 (.agg #[x1x, x2x]) xs dx) := Lib.hid ⟨_, _, rfl, IsR.own o1x rfl rfl, IsR.own o2x rfl rfl⟩
  obtain ⟨p1x, n1x, rfl⟩ := own_slR o1x; obtain ⟨p2x, n2x, rfl⟩ := own_slR o2x
  have K_w2_6 : Below w2.heap.size w2 w6 := below_thru K_w2_5 hb
  have K_w4_6 : Below w4.heap.size w4 w6 := below_thru K_w4_5 hb
  clear K_w2_5 K_w4_5
  have hB6 : Below w.heap.size w w6 := below_thru hB5 hb
  have hs6 := hB6.size
  have x_d6 : Box w6 (w.heap.size) ([v1, v2]) := Box.below x_d5 hb
  have x_t6 : Box w6 (w.heap.size + 1) (V) := Box.below x_t5 hb
  have x_u6 : Box w6 (w.heap.size + 2) (U) := Box.below x_u5 hb
  have x_f6 : Box w6 (w.heap.size + 3) (F) := Box.below x_f5 hb
  have x_a6 : Box w6 (w2.heap.size) ([.slice p1a asA.length n1a, .slice p2a cs.length n2a]) := Box.below x_a5 hb
  have x_b6 : Box w6 (w4.heap.size) ([.slice p1b bs.length n1b, .slice p2b cs.length n2b]) := Box.below x_b5 hb
  clear hB5 hs5 x_d5 x_t5 x_u5 x_f5 x_a5 x_b5
  clear hb
  clear o1x o2x
  have K_w6_6 : Below w6.heap.size w6 w6 := Below.refl _ _
  have d_x_d := (x_d6).lt
  have d_x_t := (x_t6).lt
  have d_x_u := (x_u6).lt
  have d_x_f := (x_f6).lt
  have d_x_a := (x_a6).lt
  have d_x_b := (x_b6).lt
  have d_x_0 := hs6
  go_upto_region 8 with (refine wpList_store_box (cs := [.slice p1x xs.length n1x, .slice p2x dx.length n2x]) rfl _ _ _ rfl (Box.newc (l := id0) rfl rfl) rfl rfl (size_id12 _ _) rfl (one_id12 _ _ _ _ _ _) ?_; intro W6_0 hW6_0)
  have hN : Below w6.heap.size w6 W6_0 := (hW6_0.below _ _ (by omega) ((Below.refl _ w6).alloc (Nat.le_refl _) _))
  have x_x7 : Box W6_0 (w6.heap.size) ([.slice p1x xs.length n1x, .slice p2x dx.length n2x]) := hW6_0.box
  have K_w2_7 : Below w2.heap.size w2 W6_0 := below_thru K_w2_6 hN
  have K_w4_7 : Below w4.heap.size w4 W6_0 := below_thru K_w4_6 hN
  have K_w6_7 : Below w6.heap.size w6 W6_0 := below_thru K_w6_6 hN
  clear K_w2_6 K_w4_6 K_w6_6
  have hB7 : Below w.heap.size w W6_0 := below_thru hB6 hN
  have hs7 := hB7.size
  have x_d7 : Box W6_0 (w.heap.size) ([v1, v2]) := Box.below x_d6 hN
  have x_t7 : Box W6_0 (w.heap.size + 1) (V) := Box.below x_t6 hN
  have x_u7 : Box W6_0 (w.heap.size + 2) (U) := Box.below x_u6 hN
  have x_f7 : Box W6_0 (w.heap.size + 3) (F) := Box.below x_f6 hN
  have x_a7 : Box W6_0 (w2.heap.size) ([.slice p1a asA.length n1a, .slice p2a cs.length n2a]) := Box.below x_a6 hN
  have x_b7 : Box W6_0 (w4.heap.size) ([.slice p1b bs.length n1b, .slice p2b cs.length n2b]) := Box.below x_b6 hN
  clear hB6 hs6 x_d6 x_t6 x_u6 x_f6 x_a6 x_b6
  clear hN hW6_0
  clear K_w2_7
  clear x_a7
  clear x_u7
  clear Ia
  go_wp2_with (first
    | (refine wpList_load_box9 rfl _ _ rfl x_b7 rfl Try.underlying25 rfl (size_id12 _ _) ?_)
    | (refine wpList_load_box9 rfl _ _ rfl x_t7 rfl Try.underlying34 rfl SV.out ?_))
  refine (PY _ _ (Ib.out.below K_w4_7)).mono ?_
  rintro e w8 ⟨x1y, x2y, rfl, o1y, o2y, hb⟩
  have Iy : Hid (IsD w8 (.agg #[x1y, x2y]) ys dy) := Lib.hid ⟨_, _, rfl, IsR.own o1y rfl rfl, IsR.own o2y rfl rfl⟩
  obtain ⟨p1y, n1y, rfl⟩ := own_slR o1y; obtain ⟨p2y, n2y, rfl⟩ := own_slR o2y
  have K_w4_8 : Below w4.heap.size w4 w8 := below_thru K_w4_7 hb
  have K_w6_8 : Below w6.heap.size w6 w8 := below_thru K_w6_7 hb
  clear K_w4_7 K_w6_7
  have hB8 : Below w.heap.size w w8 := below_thru hB7 hb
  have hs8 := hB8.size
  have x_d8 : Box w8 (w.heap.size) ([v1, v2]) := Box.below x_d7 hb
  have x_t8 : Box w8 (w.heap.size + 1) (V) := Box.below x_t7 hb
  have x_f8 : Box w8 (w.heap.size + 3) (F) := Box.below x_f7 hb
  have x_b8 : Box w8 (w4.heap.size) ([.slice p1b bs.length n1b, .slice p2b cs.length n2b]) := Box.below x_b7 hb
  have x_x8 : Box w8 (w6.heap.size) ([.slice p1x xs.length n1x, .slice p2x dx.length n2x]) := Box.below x_x7 hb
  clear hB7 hs7 x_d7 x_t7 x_f7 x_b7 x_x7
  clear hb
  clear o1y o2y
  have K_w8_8 : Below w8.heap.size w8 w8 := Below.refl _ _
  have d_y_d := (x_d8).lt
  have d_y_t := (x_t8).lt
  have d_y_f := (x_f8).lt
  have d_y_b := (x_b8).lt
  have d_y_x := (x_x8).lt
  have d_y_0 := hs8
  go_upto_region 9 with (refine wpList_store_box (cs := [.slice p1y ys.length n1y, .slice p2y dy.length n2y]) rfl _ _ _ rfl (Box.newc (l := id0) rfl rfl) rfl rfl (size_id12 _ _) rfl (one_id12 _ _ _ _ _ _) ?_; intro W8_0 hW8_0)
  have hN : Below w8.heap.size w8 W8_0 := (hW8_0.below _ _ (by omega) ((Below.refl _ w8).alloc (Nat.le_refl _) _))
  have x_y9 : Box W8_0 (w8.heap.size) ([.slice p1y ys.length n1y, .slice p2y dy.length n2y]) := hW8_0.box
  have K_w4_9 : Below w4.heap.size w4 W8_0 := below_thru K_w4_8 hN
  have K_w6_9 : Below w6.heap.size w6 W8_0 := below_thru K_w6_8 hN
  have K_w8_9 : Below w8.heap.size w8 W8_0 := below_thru K_w8_8 hN
  clear K_w4_8 K_w6_8 K_w8_8
  have hB9 : Below w.heap.size w W8_0 := below_thru hB8 hN
  have hs9 := hB9.size
  have x_d9 : Box W8_0 (w.heap.size) ([v1, v2]) := Box.below x_d8 hN
  have x_t9 : Box W8_0 (w.heap.size + 1) (V) := Box.below x_t8 hN
  have x_f9 : Box W8_0 (w.heap.size + 3) (F) := Box.below x_f8 hN
  have x_b9 : Box W8_0 (w4.heap.size) ([.slice p1b bs.length n1b, .slice p2b cs.length n2b]) := Box.below x_b8 hN
  have x_x9 : Box W8_0 (w6.heap.size) ([.slice p1x xs.length n1x, .slice p2x dx.length n2x]) := Box.below x_x8 hN
  clear hB8 hs8 x_d8 x_t8 x_f8 x_b8 x_x8
  clear hN hW8_0
  clear K_w4_9
  clear x_b9
  clear x_t9
  clear Ib
  go_upto_region 11 with fail
  clear K_w6_9
  clear K_w8_9
  clear x_x9
  clear x_y9
  clear Ix Iy
  refine wp_region_held_drew (S := fun W => Box W (w.heap.size) ([v1, v2]) ∧ Box W (w.heap.size + 3) (F)) (by kernel_rfl) (And.intro (x_d9).drew (x_f9).drew) (fun _ => ?_)
  refine F_drew (F := fun W => wpAnyH _ _ _ _ _ _ _ _ W) ?_
  intro Wp0 hbp0
  clear hs9
  have x_d_p0 : Box Wp0 (w.heap.size) ([v1, v2]) := Box.below x_d9 hbp0
  have x_f_p0 : Box Wp0 (w.heap.size + 3) (F) := Box.below x_f9 hbp0
  have Bp0 := below_thru hB9 hbp0
  clear x_d9 x_f9 hB9 hbp0
  refine takeH 0 60 (v := ?vp0_1) rfl (by rfl) (by kernel_rfl) (by kernel_rfl) (by kernel_rfl) (fun _ _ _ h => h) (Or.inl ⟨by rfl, ?_⟩) ((And.intro x_d_p0 x_f_p0)) ?_
  rotate_left
  · intro wq hSq
    go_simp
    exact rfl
  try simp only [Act.put, List.setIfInBounds_toArray, List.set_cons_zero, List.set_cons_succ]
  refine takeH 1 61 (v := ?vp1_2) rfl (by rfl) (by kernel_rfl) (by kernel_rfl) (by kernel_rfl) (fun _ _ _ h => h) (Or.inl ⟨by rfl, ?_⟩) ((And.intro x_d_p0 x_f_p0)) ?_
  rotate_left
  · intro wq hSq
    go_simp
    exact rfl
  try simp only [Act.put, List.setIfInBounds_toArray, List.set_cons_zero, List.set_cons_succ]
  refine takeH 2 62 (v := ?vp2_3) rfl (by rfl) (by kernel_rfl) (by kernel_rfl) (by kernel_rfl) (fun _ _ _ h => h) (Or.inl ⟨by rfl, ?_⟩) ((And.intro x_d_p0 x_f_p0)) ?_
  rotate_left
  · intro wq hSq
    go_simp
    exact rfl
  try simp only [Act.put, List.setIfInBounds_toArray, List.set_cons_zero, List.set_cons_succ]
  refine takeH 3 63 (v := undef) rfl (by rfl) (by kernel_rfl) (by kernel_rfl) (by kernel_rfl) (fun _ _ _ h => h) (Or.inr ⟨by rfl, rfl⟩) ((And.intro x_d_p0 x_f_p0)) ?_
  try simp only [Act.put, List.setIfInBounds_toArray, List.set_cons_zero, List.set_cons_succ]
  refine takeH 4 64 (v := undef) rfl (by rfl) (by kernel_rfl) (by kernel_rfl) (by kernel_rfl) (fun _ _ _ h => h) (Or.inr ⟨by rfl, rfl⟩) ((And.intro x_d_p0 x_f_p0)) ?_
  try simp only [Act.put, List.setIfInBounds_toArray, List.set_cons_zero, List.set_cons_succ]
  refine takeH 5 65 (v := undef) rfl (by rfl) (by kernel_rfl) (by kernel_rfl) (by kernel_rfl) (fun _ _ _ h => h) (Or.inr ⟨by rfl, rfl⟩) ((And.intro x_d_p0 x_f_p0)) ?_
  try simp only [Act.put, List.setIfInBounds_toArray, List.set_cons_zero, List.set_cons_succ]
  refine takeH 6 66 (v := undef) rfl (by rfl) (by kernel_rfl) (by kernel_rfl) (by kernel_rfl) (fun _ _ _ h => h) (Or.inr ⟨by rfl, rfl⟩) ((And.intro x_d_p0 x_f_p0)) ?_
  try simp only [Act.put, List.setIfInBounds_toArray, List.set_cons_zero, List.set_cons_succ]
  refine takeH 7 67 (v := undef) rfl (by rfl) (by kernel_rfl) (by kernel_rfl) (by kernel_rfl) (fun _ _ _ h => h) (Or.inr ⟨by rfl, rfl⟩) ((And.intro x_d_p0 x_f_p0)) ?_
  try simp only [Act.put, List.setIfInBounds_toArray, List.set_cons_zero, List.set_cons_succ]
  refine takeH 8 68 (v := undef) rfl (by rfl) (by kernel_rfl) (by kernel_rfl) (by kernel_rfl) (fun _ _ _ h => h) (Or.inr ⟨by rfl, rfl⟩) ((And.intro x_d_p0 x_f_p0)) ?_
  try simp only [Act.put, List.setIfInBounds_toArray, List.set_cons_zero, List.set_cons_succ]
  refine takeH 9 69 (v := undef) rfl (by rfl) (by kernel_rfl) (by kernel_rfl) (by kernel_rfl) (fun _ _ _ h => h) (Or.inr ⟨by rfl, rfl⟩) ((And.intro x_d_p0 x_f_p0)) ?_
  try simp only [Act.put, List.setIfInBounds_toArray, List.set_cons_zero, List.set_cons_succ]
  refine takeH 10 70 (v := ?vp10_4) rfl (by rfl) (by kernel_rfl) (by kernel_rfl) (by kernel_rfl) (fun _ _ _ h => h) (Or.inl ⟨by rfl, ?_⟩) ((And.intro x_d_p0 x_f_p0)) ?_
  rotate_left
  · intro wq hSq
    go_simp
    exact rfl
  try simp only [Act.put, List.setIfInBounds_toArray, List.set_cons_zero, List.set_cons_succ]
  refine wpAnyH_done (by kernel_rfl) ?_ _
  have hB10 := Bp0; have hs10 := hB10.size
  have x_d10 := x_d_p0
  have x_f10 := x_f_p0
  clear Bp0 x_d_p0 x_f_p0
  go_upto_region 13 with fail
  refine wp_region_held_drew (S := fun W => Box W (w.heap.size) ([v1, v2]) ∧ Box W (w.heap.size + 3) (F)) (by kernel_rfl) (And.intro (x_d10).drew (x_f10).drew) (fun _ => ?_)
  refine F_drew (F := fun W => wpAnyH _ _ _ _ _ _ _ _ W) ?_
  intro Wq0 hbq0
  clear hs10
  have x_d_q0 : Box Wq0 (w.heap.size) ([v1, v2]) := Box.below x_d10 hbq0
  have x_f_q0 : Box Wq0 (w.heap.size + 3) (F) := Box.below x_f10 hbq0
  have Bq0 := below_thru hB10 hbq0
  clear x_d10 x_f10 hB10 hbq0
  refine takeH 0 71 (v := ?vq0_1) rfl (by rfl) (by kernel_rfl) (by kernel_rfl) (by kernel_rfl) (fun _ _ _ h => h) (Or.inl ⟨by rfl, ?_⟩) ((And.intro x_d_q0 x_f_q0)) ?_
  rotate_left
  · intro wq hSq
    go_simp
    exact rfl
  try simp only [Act.put, List.setIfInBounds_toArray, List.set_cons_zero, List.set_cons_succ]
  refine takeH 1 72 (v := ?vq1_2) rfl (by rfl) (by kernel_rfl) (by kernel_rfl) (by kernel_rfl) (fun _ _ _ h => h) (Or.inl ⟨by rfl, ?_⟩) ((And.intro x_d_q0 x_f_q0)) ?_
  rotate_left
  · intro wq hSq
    have cq := (hSq.2).c 0 _ v0
    have zq := lt_of_cell cq
    go_simp
    exact rfl
  try simp only [Act.put, List.setIfInBounds_toArray, List.set_cons_zero, List.set_cons_succ]
  refine takeH 2 73 (v := ?vq2_3) rfl (by rfl) (by kernel_rfl) (by kernel_rfl) (by kernel_rfl) (fun _ _ _ h => h) (Or.inl ⟨by rfl, ?_⟩) ((And.intro x_d_q0 x_f_q0)) ?_
  rotate_left
  · intro wq hSq
    go_simp
    exact rfl
  try simp only [Act.put, List.setIfInBounds_toArray, List.set_cons_zero, List.set_cons_succ]
  refine takeH 3 74 (v := ?vq3_4) rfl (by rfl) (by kernel_rfl) (by kernel_rfl) (by kernel_rfl) (fun _ _ _ h => h) (Or.inl ⟨by rfl, ?_⟩) ((And.intro x_d_q0 x_f_q0)) ?_
  rotate_left
  · intro wq hSq
    go_simp
    exact rfl
  try simp only [Act.put, List.setIfInBounds_toArray, List.set_cons_zero, List.set_cons_succ]
  refine takeH 4 75 (v := undef) rfl (by rfl) (by kernel_rfl) (by kernel_rfl) (by kernel_rfl) (fun _ _ _ h => h) (Or.inr ⟨by rfl, rfl⟩) ((And.intro x_d_q0 x_f_q0)) ?_
  try simp only [Act.put, List.setIfInBounds_toArray, List.set_cons_zero, List.set_cons_succ]
  refine takeH 5 76 (v := undef) rfl (by rfl) (by kernel_rfl) (by kernel_rfl) (by kernel_rfl) (fun _ _ _ h => h) (Or.inr ⟨by rfl, rfl⟩) ((And.intro x_d_q0 x_f_q0)) ?_
  try simp only [Act.put, List.setIfInBounds_toArray, List.set_cons_zero, List.set_cons_succ]
  refine takeH 6 77 (v := undef) rfl (by rfl) (by kernel_rfl) (by kernel_rfl) (by kernel_rfl) (fun _ _ _ h => h) (Or.inr ⟨by rfl, rfl⟩) ((And.intro x_d_q0 x_f_q0)) ?_
  try simp only [Act.put, List.setIfInBounds_toArray, List.set_cons_zero, List.set_cons_succ]
  refine takeH 7 78 (v := undef) rfl (by rfl) (by kernel_rfl) (by kernel_rfl) (by kernel_rfl) (fun _ _ _ h => h) (Or.inr ⟨by rfl, rfl⟩) ((And.intro x_d_q0 x_f_q0)) ?_
  try simp only [Act.put, List.setIfInBounds_toArray, List.set_cons_zero, List.set_cons_succ]
  refine takeH 8 79 (v := undef) rfl (by rfl) (by kernel_rfl) (by kernel_rfl) (by kernel_rfl) (fun _ _ _ h => h) (Or.inr ⟨by rfl, rfl⟩) ((And.intro x_d_q0 x_f_q0)) ?_
  try simp only [Act.put, List.setIfInBounds_toArray, List.set_cons_zero, List.set_cons_succ]
  refine takeH 9 80 (v := undef) rfl (by rfl) (by kernel_rfl) (by kernel_rfl) (by kernel_rfl) (fun _ _ _ h => h) (Or.inr ⟨by rfl, rfl⟩) ((And.intro x_d_q0 x_f_q0)) ?_
  try simp only [Act.put, List.setIfInBounds_toArray, List.set_cons_zero, List.set_cons_succ]
  refine takeH 10 81 (v := undef) rfl (by rfl) (by kernel_rfl) (by kernel_rfl) (by kernel_rfl) (fun _ _ _ h => h) (Or.inr ⟨by rfl, rfl⟩) ((And.intro x_d_q0 x_f_q0)) ?_
  try simp only [Act.put, List.setIfInBounds_toArray, List.set_cons_zero, List.set_cons_succ]
  refine takeH 11 82 (v := undef) rfl (by rfl) (by kernel_rfl) (by kernel_rfl) (by kernel_rfl) (fun _ _ _ h => h) (Or.inr ⟨by rfl, rfl⟩) ((And.intro x_d_q0 x_f_q0)) ?_
  try simp only [Act.put, List.setIfInBounds_toArray, List.set_cons_zero, List.set_cons_succ]
  refine takeH 12 83 (v := undef) rfl (by rfl) (by kernel_rfl) (by kernel_rfl) (by kernel_rfl) (fun _ _ _ h => h) (Or.inr ⟨by rfl, rfl⟩) ((And.intro x_d_q0 x_f_q0)) ?_
  try simp only [Act.put, List.setIfInBounds_toArray, List.set_cons_zero, List.set_cons_succ]
  refine takeH 13 84 (v := undef) rfl (by rfl) (by kernel_rfl) (by kernel_rfl) (by kernel_rfl) (fun _ _ _ h => h) (Or.inr ⟨by rfl, rfl⟩) ((And.intro x_d_q0 x_f_q0)) ?_
  try simp only [Act.put, List.setIfInBounds_toArray, List.set_cons_zero, List.set_cons_succ]
  refine takeH 14 85 (v := undef) rfl (by rfl) (by kernel_rfl) (by kernel_rfl) (by kernel_rfl) (fun _ _ _ h => h) (Or.inr ⟨by rfl, rfl⟩) ((And.intro x_d_q0 x_f_q0)) ?_
  try simp only [Act.put, List.setIfInBounds_toArray, List.set_cons_zero, List.set_cons_succ]
  refine takeH 15 86 (v := undef) rfl (by rfl) (by kernel_rfl) (by kernel_rfl) (by kernel_rfl) (fun _ _ _ h => h) (Or.inr ⟨by rfl, rfl⟩) ((And.intro x_d_q0 x_f_q0)) ?_
  try simp only [Act.put, List.setIfInBounds_toArray, List.set_cons_zero, List.set_cons_succ]
  refine takeH 16 87 (v := ?vq16_5) rfl (by rfl) (by kernel_rfl) (by kernel_rfl) (by kernel_rfl) (fun _ _ _ h => h) (Or.inl ⟨by rfl, ?_⟩) ((And.intro x_d_q0 x_f_q0)) ?_
  rotate_left
  · intro wq hSq
    go_simp
    exact rfl
  try simp only [Act.put, List.setIfInBounds_toArray, List.set_cons_zero, List.set_cons_succ]
  refine wpAnyH_done (by kernel_rfl) ?_ _
  have hB11 := Bq0; have hs11 := hB11.size
  have x_d11 := x_d_q0
  have x_f11 := x_f_q0
  clear Bq0 x_d_q0 x_f_q0
  go_wp2_with fail
  refine (AL _).mono ?_
  rintro e w12 ⟨rfl, hb⟩
  have hB12 : Below w.heap.size w w12 := below_thru hB11 hb
  have hs12 := hB12.size
  have x_d12 : Box w12 (w.heap.size) ([v1, v2]) := Box.below x_d11 hb
  have x_f12 : Box w12 (w.heap.size + 3) (F) := Box.below x_f11 hb
  clear hB11 hs11 x_d11 x_f11
  clear hb
  go_wp2_with fail
  go_returns
  exact ⟨rfl, hB12⟩

theorem order12_is {v : Value} {ts : List Tk} {cs : List Cmd} (t u : Tk) (f : Frm) {n m : Int} (hl : ts.length + cs.length ≤ 1000000000000000) (hn : 0 ≤ n ∧ n ≤ 65535) (hm : 0 ≤ m ∧ m ≤ 4294967295) (w : World) (h1 : IsD w v ts cs) : Calls Try.prog 7 #[v, .agg t.v.toArray, .agg u.v.toArray, .agg (mcell f).toArray, .int .u16 n, .int .u32 m] w fun e w' => e = .returned (.bool true) ∧ Below w.heap.size w w' := by
  by_cases hg : FitD ts cs f
  · obtain ⟨asA, da, e, ha⟩ := PutT.ex ts cs t
    obtain ⟨bs, db, g, hb⟩ := PutT.ex ts cs u
    by_cases he : e = 0
    · subst he
      by_cases he : g = 0
      · subst he
        have hc := hg.2.1
        obtain ⟨ka, ea, _⟩ := ha.then12 hc
        obtain ⟨kb, eb, _⟩ := hb.then12 hc
        rw [ea] at ha ka
        rw [eb] at hb kb
        obtain ⟨xs, dx, h, hx⟩ := PutT.ex asA cs u
        obtain ⟨ys, dy, i, hy⟩ := PutT.ex bs cs t
        obtain ⟨hi, _⟩ := PutT.order12 hc ha hb hx hy
        rw [← hi] at hy
        clear hi
        have h2 : f.kd = 1 ∨ f.kd = 2 := by
          rcases Frm.ok_two hg.2.2 with ⟨_, _, h, _⟩ | ⟨_, _, h, _⟩
          · exact Or.inl h
          · exact Or.inr h
        by_cases hh : h = 0
        · subst hh
          have ex := (hx.then12 ka).2.1
          have ey := (hy.then12 kb).2.1
          rw [ex] at hx
          rw [ey] at hy
          rcases h2 with hk | hk
          · exact order12_0r t u f hl hg ha hb hx hy hk hn hm w h1
          · exact order12_0c t u f hl hg ha hb hx hy hk w h1
        · rcases h2 with hk | hk
          · exact order12_1r t u f hl hg ha hb hx hy hh hk hn hm w h1
          · exact order12_1c t u f hl hg ha hb hx hy hh hk w h1
      · exact order12_g t u f hl hg ha hb he w h1
    · exact order12_e t u f hl hg ha hb he w h1
  · exact order12_n t u f hl hg w h1

end Go.Proofs.Ytpccahdbienjeaa
