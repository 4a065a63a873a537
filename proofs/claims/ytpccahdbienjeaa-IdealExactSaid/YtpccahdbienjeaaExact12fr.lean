/-
  IdealExact, walked: one case.
-/
import Derived.Test.YtpccahdbienjeaaExactM12
namespace Go.Proofs.Ytpccahdbienjeaa
open Go.RowKit

set_option maxRecDepth 100000 in
set_option maxHeartbeats 6400000 in
theorem exact12_fr {v : Value} {ts : List Tk} {cs : List Cmd} (t : Tk) (c : Cmd) (f : Frm) (hl : ts.length + cs.length ≤ 1000000000000000) (hg : FitD ts cs f) {us us2 : List Tk} {ds ds2 : List Cmd} {q q2 : Int} (hp : PutT ts cs t us ds q) (hp2 : PutC ts cs c us2 ds2 q2) (hx : ¬ AccD ts cs f) (hk : f.kd = 1) (w : World) (h1 : IsD w v ts cs) : Calls Try.prog 6 #[v, .agg t.v.toArray, .agg (ccell c).toArray, .agg (mcell f).toArray] w fun e w' => e = .returned (.bool true) ∧ Below w.heap.size w w' := by
  have FT := fun (W : World) (x : Value) (h : IsD W x ts cs) => lfit12_is f hl (b := true) (⟨fun _ => hg, fun _ => rfl⟩) W h; have AL := fun W => alive12_is W
  have h180 := not_grt hg.1; have hc := hg.2.1; have hf := hg.2.2
  have BA := fun (W : World) (x : Value) (h : IsD W x ts cs) => pacp_is f h180 (b := false) (q := 0) (Or.inr (Or.inr ⟨rfl, hc, hf, no_b12 hx⟩)) W h
  have PT := fun (W : World) (x : Value) (h : IsD W x ts cs) => ptok_is t h180 hp W h; have PC := fun (W : World) (x : Value) (h : IsD W x ts cs) => pcmd_is c h180 hp2 W h
  obtain ⟨s, hs⟩ := ex_bool12 (f.r.tk = t); obtain ⟨z, hz⟩ := ex_bool12 (f.c = c)
  have EQ := fun W => eq_tk hs W; have EC := fun W => eqc_b hz W
  have HQ : Hid (q = 0 ∨ q = 8 ∨ q = 14 ∨ q = 4) := by
    by_cases h : q = 0
    · exact Lib.hid (Or.inl h)
    · exact Lib.hid (Or.inr (hp.no12 hc h).1)
  have HQ2 : Hid (q2 = 0 ∨ q2 = 8 ∨ q2 = 14 ∨ q2 = 4) := by
    by_cases h : q2 = 0
    · exact Lib.hid (Or.inl h)
    · exact Lib.hid (Or.inr (hp2.no12 hc h).1)
  have ZT : q = 0 → us.length + ds.length ≤ 180 := fun e => by
    subst e
    have := (hp.then12 hc).1.z12.1
    omega
  have ZC : q2 = 0 → us2.length + ds2.length ≤ 180 := fun e => by
    subst e
    have := (hp2.then12 hc).1.z12.1
    omega
  have P0 : q = 0 → PutT us ds t us ds 0 := fun e => by
    subst e
    obtain ⟨a, b, e, h⟩ := PutT.ex us ds t
    obtain ⟨h1, h2, h3⟩ := (hp.then12 hc).2.2.2 h
    rw [h1, h2, h3] at h
    exact h
  have C0 : q2 = 0 → PutC us2 ds2 c us2 ds2 0 := fun e => by
    subst e
    obtain ⟨a, b, e, h⟩ := PutC.ex us2 ds2 c
    obtain ⟨h1, h2, h3⟩ := (hp2.then12 hc).2.2.2 h
    rw [h1, h2, h3] at h
    exact h
  have AA := Lib.hid (fun (e : q = 0) (W : World) (x : Value) (h : IsD W x us ds) => lacc12_is (Frm.req (rq34 t)) (ZT e) (b := true) ⟨fun _ => tacc12 (e ▸ hp) hc, fun _ => rfl⟩ W h)
  have PT2 := Lib.hid (fun (e : q = 0) (W : World) (x : Value) (h : IsD W x us ds) => ptok_is t (ZT e) (P0 e) W h)
  have AQ := Lib.hid (fun (e : q ≠ 0) (W : World) (x : Value) (h : IsD W x ts cs) => lacc12_is (Frm.req (rq34 t)) h180 (no_b12 (tno12 hp hc e)) W h)
  have CA := Lib.hid (fun (e : q2 = 0) (W : World) (x : Value) (h : IsD W x us2 ds2) => lacc12_is (Frm.cmd c) (ZC e) (b := true) ⟨fun _ => cacc12 (e ▸ hp2) hc, fun _ => rfl⟩ W h)
  have PC2 := Lib.hid (fun (e : q2 = 0) (W : World) (x : Value) (h : IsD W x us2 ds2) => pcmd_is c (ZC e) (C0 e) W h)
  have CN := Lib.hid (fun (e : q2 ≠ 0) (W : World) (x : Value) (h : IsD W x ts cs) => lacc12_is (Frm.cmd c) h180 (no_b12 (cno12 hp2 hc e)) W h)
  have AF := Lib.hid (fun (e : q = 0) (W : World) (x : Value) (h : IsD W x us ds) => lacc12_is f (ZT e) (b := s) (hs.trans ⟨fun g => (tf12 (e ▸ hp) hc hf).2 (Or.inr ⟨(by rw [hk]; decide), g⟩), fun g => ((tf12 (e ▸ hp) hc hf).1 g).elim (fun n => absurd n hx) (fun n => n.2)⟩) W h)
  have CF := Lib.hid (fun (e : q2 = 0) (W : World) (x : Value) (h : IsD W x us2 ds2) => lacc12_is f (ZC e) (b := false) (no_b12 fun g => ((cf12 (e ▸ hp2) hc hf).1 g).elim hx fun n => absurd n.1 (by rw [hk]; decide)) W h)
  have RQ := fun W => lreq12_is (rq34 t) W; have CQ := fun W => lcmd12_is c W
  rw [show (rq34 t).tk = t from rfl, show (rq34 t).ep = 3 from rfl, show (rq34 t).co = 4 from rfl] at RQ
  have SM := fun (W : World) (u v : Value) (ms : List Tk) (ns : List Cmd) (h1 : IsD W u ms ns) (h2 : IsD W v ms ns) => rsame12_is (b := true) W h1 h2 ⟨fun _ => ⟨rfl, rfl⟩, fun _ => rfl⟩
  have ns := (by simp : (s != s) = false)
  have es := (by simp : (s == s) = true)
  have nz := (by simp : (z != z) = false)
  have ez := (by simp : (z == z) = true)
  have v0 : (mcell f)[0]? = some (.int .u8 1) := by rw [← hk]; rfl
  have DT : Hid ((mcell f).drop 1 = f.r.tk.v ++ (.int .u16 f.r.ep :: .int .u32 f.r.co :: ccell f.c)) := Lib.hid (mcell_t f); have SP := Lib.hid (size_tk f.r.tk); have DC := Lib.hid (mcell_c f); have SQ := Lib.hid (size_cmd f.c)
  obtain ⟨G, hG⟩ : ∃ X, mcell (Frm.req (rq34 t)) = X := ⟨_, rfl⟩
  rw [hG] at RQ AA AQ
  clear hG
  obtain ⟨H, hH⟩ : ∃ X, mcell (Frm.cmd c) = X := ⟨_, rfl⟩
  rw [hH] at CQ CA CN
  clear hH
  obtain ⟨R, hR⟩ : ∃ X, (Value.int .u16 f.r.ep :: .int .u32 f.r.co :: ccell f.c) = X := ⟨_, rfl⟩
  rw [hR] at DT
  clear hR
  obtain ⟨P, hP⟩ : ∃ X, f.r.tk.v = X := ⟨_, rfl⟩
  rw [hP] at EQ DT SP
  clear hP
  obtain ⟨Q, hQ⟩ : ∃ X, ccell f.c = X := ⟨_, rfl⟩
  rw [hQ] at EC DC SQ
  clear hQ
  have HD := Lib.hid h1
  obtain ⟨v1, v2, rfl, g1, g2⟩ := id h1
  have SD := Lib.hid (size_id12 v1 v2)
  clear g1 g2 h1
  have SV := Lib.hid (size_tk t); have SC := Lib.hid (size_cmd c); have SF := Lib.hid (size_frm f)
  obtain ⟨V, hV⟩ : ∃ X, t.v = X := ⟨_, rfl⟩
  rw [hV] at SV PT PT2 EQ RQ ⊢
  clear hV
  obtain ⟨C, hC⟩ : ∃ X, ccell c = X := ⟨_, rfl⟩
  rw [hC] at SC PC PC2 EC CQ ⊢
  clear hC
  obtain ⟨F, hF⟩ : ∃ X, mcell f = X := ⟨_, rfl⟩
  rw [hF] at SF FT BA AF CF v0 DT DC ⊢
  clear hF
  clear hl hg hp hp2 hx hk h180 hc hf hs hz ZT ZC P0 C0
  go_enter Try.func6, Try.ntmps6
  go_upto_region 1 with fail
  refine F_gen (F := fun W => Code.wp _ _ _ _ W) (J := fun W => Box W (w.heap.size) ([v1, v2]) ∧ Box W (w.heap.size + 1) (V) ∧ Box W (w.heap.size + 2) (C) ∧ Box W (w.heap.size + 3) (F) ∧ Below w.heap.size w W) (And.intro (Box.alloc (Box.alloc (Box.alloc (Box.newc rfl rfl) _) _) _) (And.intro (Box.alloc (Box.alloc (Box.newc rfl (by simp)) _) _) (And.intro (Box.alloc (Box.newc rfl (by simp)) _) (And.intro (Box.newc rfl (by simp)) (by go_grown))))) ?_
  intro w0 ⟨e_d, e_t, e_c, e_f, hB0⟩
  have hs0 := hB0.size
  have x_d0 := e_d; clear e_d
  have x_t0 := e_t; clear e_t
  have x_c0 := e_c; clear e_c
  have x_f0 := e_f; clear e_f
  go_wp2_with (first
    | (refine wpList_load_box9 rfl _ _ rfl x_d0 rfl Try.underlying25 rfl SD.out ?_)
    | (refine wpList_load_box9 rfl _ _ rfl x_f0 rfl Try.underlying47 rfl SF.out ?_))
  refine (FT _ _ (HD.out.below hB0)).mono ?_
  rintro e w1 ⟨rfl, hb⟩
  have hB1 : Below w.heap.size w w1 := below_thru hB0 hb
  have hs1 := hB1.size
  have x_d1 : Box w1 (w.heap.size) ([v1, v2]) := Box.below x_d0 hb
  have x_t1 : Box w1 (w.heap.size + 1) (V) := Box.below x_t0 hb
  have x_c1 : Box w1 (w.heap.size + 2) (C) := Box.below x_c0 hb
  have x_f1 : Box w1 (w.heap.size + 3) (F) := Box.below x_f0 hb
  clear hB0 hs0 x_d0 x_t0 x_c0 x_f0
  clear hb
  go_wp2_with (first
    | (refine wpList_load_box9 rfl _ _ rfl x_d1 rfl Try.underlying25 rfl SD.out ?_)
    | (refine wpList_load_box9 rfl _ _ rfl x_f1 rfl Try.underlying47 rfl SF.out ?_))
  refine (BA _ _ (HD.out.below hB1)).mono ?_
  rintro e w2 ⟨rfl, hb⟩
  have hB2 : Below w.heap.size w w2 := below_thru hB1 hb
  have hs2 := hB2.size
  have x_d2 : Box w2 (w.heap.size) ([v1, v2]) := Box.below x_d1 hb
  have x_t2 : Box w2 (w.heap.size + 1) (V) := Box.below x_t1 hb
  have x_c2 : Box w2 (w.heap.size + 2) (C) := Box.below x_c1 hb
  have x_f2 : Box w2 (w.heap.size + 3) (F) := Box.below x_f1 hb
  clear hB1 hs1 x_d1 x_t1 x_c1 x_f1
  clear hb
  go_wp2_with (first
    | (refine wpList_load_box9 rfl _ _ rfl x_d2 rfl Try.underlying25 rfl SD.out ?_)
    | (refine wpList_load_box9 rfl _ _ rfl x_t2 rfl Try.underlying34 rfl SV.out ?_))
  refine (PT _ _ (HD.out.below hB2)).mono ?_
  rintro e w3 ⟨x1a, x2a, rfl, o1a, o2a, hb⟩
  have Ia : Hid (IsD w3 (.agg #[x1a, x2a]) us ds) := Lib.hid ⟨_, _, rfl, IsR.own o1a rfl rfl, IsR.own o2a rfl rfl⟩
  obtain ⟨p1a, n1a, rfl⟩ := own_slR o1a; obtain ⟨p2a, n2a, rfl⟩ := own_slR o2a
  have hB3 : Below w.heap.size w w3 := below_thru hB2 hb
  have hs3 := hB3.size
  have x_d3 : Box w3 (w.heap.size) ([v1, v2]) := Box.below x_d2 hb
  have x_t3 : Box w3 (w.heap.size + 1) (V) := Box.below x_t2 hb
  have x_c3 : Box w3 (w.heap.size + 2) (C) := Box.below x_c2 hb
  have x_f3 : Box w3 (w.heap.size + 3) (F) := Box.below x_f2 hb
  clear hB2 hs2 x_d2 x_t2 x_c2 x_f2
  clear hb
  clear o1a o2a
  have K_w3_3 : Below w3.heap.size w3 w3 := Below.refl _ _
  have d_a_d := (x_d3).lt
  have d_a_t := (x_t3).lt
  have d_a_c := (x_c3).lt
  have d_a_f := (x_f3).lt
  have d_a_0 := hs3
  go_upto_region 7 with (refine wpList_store_box (cs := [.slice p1a us.length n1a, .slice p2a ds.length n2a]) rfl _ _ _ rfl (Box.newc (l := id0) rfl rfl) rfl rfl (size_id12 _ _) rfl (one_id12 _ _ _ _ _ _) ?_; intro W3_0 hW3_0)
  have hN : Below w3.heap.size w3 W3_0 := (hW3_0.below _ _ (by omega) ((Below.refl _ w3).alloc (Nat.le_refl _) _))
  have x_a4 : Box W3_0 (w3.heap.size) ([.slice p1a us.length n1a, .slice p2a ds.length n2a]) := hW3_0.box
  have K_w3_4 : Below w3.heap.size w3 W3_0 := below_thru K_w3_3 hN
  clear K_w3_3
  have hB4 : Below w.heap.size w W3_0 := below_thru hB3 hN
  have hs4 := hB4.size
  have x_d4 : Box W3_0 (w.heap.size) ([v1, v2]) := Box.below x_d3 hN
  have x_t4 : Box W3_0 (w.heap.size + 1) (V) := Box.below x_t3 hN
  have x_c4 : Box W3_0 (w.heap.size + 2) (C) := Box.below x_c3 hN
  have x_f4 : Box W3_0 (w.heap.size + 3) (F) := Box.below x_f3 hN
  clear hB3 hs3 x_d3 x_t3 x_c3 x_f3
  clear hN hW3_0
  go_upto_if 41 with fail
  go_cut [12] (fun p wx => p = .int .i64 q ∧ Box wx (w.heap.size) ([v1, v2]) ∧ Box wx (w.heap.size + 2) (C) ∧ Box wx (w.heap.size + 3) (F) ∧ Below w.heap.size w wx)
  case first =>
    rcases HQ.out with e | e | e | e
    ·
      have AA1 := AA.out e; have AF1 := AF.out e; have PT3 := PT2.out e; subst e; clear AA AF PT2 AQ CA CF PC2 CN HQ HQ2
      have ca := (x_f4).c 0 _ v0
      have za := (x_f4).lt
      go_upto_region 9 with (first | (refine wpList_load_rangew rfl _ _ rfl (Box.rangeMid x_f4 1 (P) (R) DT.out) rfl Try.underlying34 rfl SP.out ?_) | (refine wpList_load_box9 rfl _ _ rfl x_t4 rfl Try.underlying34 rfl SV.out ?_))
      clear ca za
      go_wp2_with (first
        | (refine wpList_load_box9 rfl _ _ rfl x_a4 rfl Try.underlying25 rfl (size_id12 _ _) ?_)
        | (refine wpList_load_box9 rfl _ _ rfl x_t4 rfl Try.underlying34 rfl SV.out ?_))
      refine (PT3 _ _ (Ia.out.below K_w3_4)).mono ?_
      rintro e w5 ⟨x1e, x2e, rfl, o1e, o2e, hb⟩
      have Ie : Hid (IsD w5 (.agg #[x1e, x2e]) us ds) := Lib.hid ⟨_, _, rfl, IsR.own o1e rfl rfl, IsR.own o2e rfl rfl⟩
      obtain ⟨p1e, n1e, rfl⟩ := own_slR o1e; obtain ⟨p2e, n2e, rfl⟩ := own_slR o2e
      have K_w3_5 : Below w3.heap.size w3 w5 := below_thru K_w3_4 hb
      clear K_w3_4
      have hB5 : Below w.heap.size w w5 := below_thru hB4 hb
      have hs5 := hB5.size
      have x_d5 : Box w5 (w.heap.size) ([v1, v2]) := Box.below x_d4 hb
      have x_t5 : Box w5 (w.heap.size + 1) (V) := Box.below x_t4 hb
      have x_c5 : Box w5 (w.heap.size + 2) (C) := Box.below x_c4 hb
      have x_f5 : Box w5 (w.heap.size + 3) (F) := Box.below x_f4 hb
      have x_a5 : Box w5 (w3.heap.size) ([.slice p1a us.length n1a, .slice p2a ds.length n2a]) := Box.below x_a4 hb
      clear hB4 hs4 x_d4 x_t4 x_c4 x_f4 x_a4
      clear hb
      clear o1e o2e
      have K_w5_5 : Below w5.heap.size w5 w5 := Below.refl _ _
      have d_e_d := (x_d5).lt
      have d_e_t := (x_t5).lt
      have d_e_c := (x_c5).lt
      have d_e_f := (x_f5).lt
      have d_e_a := (x_a5).lt
      have d_e_0 := hs5
      go_upto_region 10 with (refine wpList_store_box (cs := [.slice p1e us.length n1e, .slice p2e ds.length n2e]) rfl _ _ _ rfl (Box.newc (l := id0) rfl rfl) rfl rfl (size_id12 _ _) rfl (one_id12 _ _ _ _ _ _) ?_; intro W5_0 hW5_0)
      have hN : Below w5.heap.size w5 W5_0 := (hW5_0.below _ _ (by omega) ((Below.refl _ w5).alloc (Nat.le_refl _) _))
      have x_e6 : Box W5_0 (w5.heap.size) ([.slice p1e us.length n1e, .slice p2e ds.length n2e]) := hW5_0.box
      have K_w3_6 : Below w3.heap.size w3 W5_0 := below_thru K_w3_5 hN
      have K_w5_6 : Below w5.heap.size w5 W5_0 := below_thru K_w5_5 hN
      clear K_w3_5 K_w5_5
      have hB6 : Below w.heap.size w W5_0 := below_thru hB5 hN
      have hs6 := hB6.size
      have x_d6 : Box W5_0 (w.heap.size) ([v1, v2]) := Box.below x_d5 hN
      have x_t6 : Box W5_0 (w.heap.size + 1) (V) := Box.below x_t5 hN
      have x_c6 : Box W5_0 (w.heap.size + 2) (C) := Box.below x_c5 hN
      have x_f6 : Box W5_0 (w.heap.size + 3) (F) := Box.below x_f5 hN
      have x_a6 : Box W5_0 (w3.heap.size) ([.slice p1a us.length n1a, .slice p2a ds.length n2a]) := Box.below x_a5 hN
      clear hB5 hs5 x_d5 x_t5 x_c5 x_f5 x_a5
      clear hN hW5_0
      refine wp_region_held_drew (S := fun W => Box W (w.heap.size) ([v1, v2]) ∧ Box W (w.heap.size + 1) (V) ∧ Box W (w.heap.size + 2) (C) ∧ Box W (w.heap.size + 3) (F) ∧ Box W (w3.heap.size) ([.slice p1a us.length n1a, .slice p2a ds.length n2a]) ∧ Box W (w5.heap.size) ([.slice p1e us.length n1e, .slice p2e ds.length n2e])) (by kernel_rfl) (And.intro (x_d6).drew (And.intro (x_t6).drew (And.intro (x_c6).drew (And.intro (x_f6).drew (And.intro (x_a6).drew (x_e6).drew))))) (fun _ => ?_)
      refine F_drew (F := fun W => wpAnyH _ _ _ _ _ _ _ _ W) ?_
      intro Wp0 hbp0
      clear hs6
      have x_d_p0 : Box Wp0 (w.heap.size) ([v1, v2]) := Box.below x_d6 hbp0
      have x_t_p0 : Box Wp0 (w.heap.size + 1) (V) := Box.below x_t6 hbp0
      have x_c_p0 : Box Wp0 (w.heap.size + 2) (C) := Box.below x_c6 hbp0
      have x_f_p0 : Box Wp0 (w.heap.size + 3) (F) := Box.below x_f6 hbp0
      have x_a_p0 : Box Wp0 (w3.heap.size) ([.slice p1a us.length n1a, .slice p2a ds.length n2a]) := Box.below x_a6 hbp0
      have x_e_p0 : Box Wp0 (w5.heap.size) ([.slice p1e us.length n1e, .slice p2e ds.length n2e]) := Box.below x_e6 hbp0
      have Bp0 := below_thru hB6 hbp0
      have K_w3_p0 := below_thru K_w3_6 hbp0
      have K_w5_p0 := below_thru K_w5_6 hbp0
      clear x_d6 x_t6 x_c6 x_f6 x_a6 x_e6 hB6 K_w3_6 K_w5_6 hbp0
      refine takeH 0 58 (v := .agg ([.slice p1a us.length n1a, .slice p2a ds.length n2a]).toArray) rfl (by rfl) (by kernel_rfl) (by kernel_rfl) (by kernel_rfl) (fun _ _ _ h => h) (yieldsIf_load_mid (by rfl) _ _ rfl _ _ rfl ([.slice p1a us.length n1a, .slice p2a ds.length n2a]) _ (fun wq hq => Box.range (hq.2.2.2.2.1)) Try.underlying25 rfl (size_id12 _ _)) ((And.intro x_d_p0 (And.intro x_t_p0 (And.intro x_c_p0 (And.intro x_f_p0 (And.intro x_a_p0 x_e_p0)))))) ?_
      try simp only [Act.put, List.setIfInBounds_toArray, List.set_cons_zero, List.set_cons_succ]
      refine takeH 1 59 (v := .agg (V).toArray) rfl (by rfl) (by kernel_rfl) (by kernel_rfl) (by kernel_rfl) (fun _ _ _ h => h) (yieldsIf_load_mid (by rfl) _ _ rfl _ _ rfl (V) _ (fun wq hq => Box.range (hq.2.1)) Try.underlying34 rfl SV.out) ((And.intro x_d_p0 (And.intro x_t_p0 (And.intro x_c_p0 (And.intro x_f_p0 (And.intro x_a_p0 x_e_p0)))))) ?_
      try simp only [Act.put, List.setIfInBounds_toArray, List.set_cons_zero, List.set_cons_succ]
      refine wpAnyH_ready (rs := [2]) (by kernel_rfl) (by simp) (AllReadyH.cons rfl (fun K hK => ?_) AllReadyH.nil)
      go_simp
      refine (RQ _).mono ?_
      rintro e Wp1 ⟨rfl, hbp1⟩
      have x_d_p1 : Box Wp1 (w.heap.size) ([v1, v2]) := Box.below x_d_p0 hbp1
      have x_t_p1 : Box Wp1 (w.heap.size + 1) (V) := Box.below x_t_p0 hbp1
      have x_c_p1 : Box Wp1 (w.heap.size + 2) (C) := Box.below x_c_p0 hbp1
      have x_f_p1 : Box Wp1 (w.heap.size + 3) (F) := Box.below x_f_p0 hbp1
      have x_a_p1 : Box Wp1 (w3.heap.size) ([.slice p1a us.length n1a, .slice p2a ds.length n2a]) := Box.below x_a_p0 hbp1
      have x_e_p1 : Box Wp1 (w5.heap.size) ([.slice p1e us.length n1e, .slice p2e ds.length n2e]) := Box.below x_e_p0 hbp1
      have Bp1 := below_thru Bp0 hbp1
      have K_w3_p1 := below_thru K_w3_p0 hbp1
      have K_w5_p1 := below_thru K_w5_p0 hbp1
      clear x_d_p0 x_t_p0 x_c_p0 x_f_p0 x_a_p0 x_e_p0 Bp0 K_w3_p0 K_w5_p0 hbp1
      refine hK.out _ _ (And.intro x_d_p1 (And.intro x_t_p1 (And.intro x_c_p1 (And.intro x_f_p1 (And.intro x_a_p1 x_e_p1))))) (fun _ => ?_); clear hK K
      refine wpAnyH_ready (rs := [3]) (by kernel_rfl) (by simp) (AllReadyH.cons rfl (fun K hK => ?_) AllReadyH.nil)
      go_simp
      refine (AA1 _ _ (Ia.out.below K_w3_p1)).mono ?_
      rintro e Wp2 ⟨rfl, hbp2⟩
      have x_d_p2 : Box Wp2 (w.heap.size) ([v1, v2]) := Box.below x_d_p1 hbp2
      have x_t_p2 : Box Wp2 (w.heap.size + 1) (V) := Box.below x_t_p1 hbp2
      have x_c_p2 : Box Wp2 (w.heap.size + 2) (C) := Box.below x_c_p1 hbp2
      have x_f_p2 : Box Wp2 (w.heap.size + 3) (F) := Box.below x_f_p1 hbp2
      have x_a_p2 : Box Wp2 (w3.heap.size) ([.slice p1a us.length n1a, .slice p2a ds.length n2a]) := Box.below x_a_p1 hbp2
      have x_e_p2 : Box Wp2 (w5.heap.size) ([.slice p1e us.length n1e, .slice p2e ds.length n2e]) := Box.below x_e_p1 hbp2
      have Bp2 := below_thru Bp1 hbp2
      have K_w3_p2 := below_thru K_w3_p1 hbp2
      have K_w5_p2 := below_thru K_w5_p1 hbp2
      clear x_d_p1 x_t_p1 x_c_p1 x_f_p1 x_a_p1 x_e_p1 Bp1 K_w3_p1 K_w5_p1 hbp2
      refine hK.out _ _ (And.intro x_d_p2 (And.intro x_t_p2 (And.intro x_c_p2 (And.intro x_f_p2 (And.intro x_a_p2 x_e_p2))))) (fun _ => ?_); clear hK K
      refine takeH 4 62 (v := ?vp4_3) rfl (by rfl) (by kernel_rfl) (by kernel_rfl) (by kernel_rfl) (fun _ _ _ h => h) (Or.inl ⟨by rfl, ?_⟩) ((And.intro x_d_p2 (And.intro x_t_p2 (And.intro x_c_p2 (And.intro x_f_p2 (And.intro x_a_p2 x_e_p2)))))) ?_
      rotate_left
      · intro wq hSq
        go_simp
        exact rfl
      try simp only [Act.put, List.setIfInBounds_toArray, List.set_cons_zero, List.set_cons_succ]
      refine takeH 5 63 (v := ?vp5_4) rfl (by rfl) (by kernel_rfl) (by kernel_rfl) (by kernel_rfl) (fun _ _ _ h => h) (Or.inl ⟨by rfl, ?_⟩) ((And.intro x_d_p2 (And.intro x_t_p2 (And.intro x_c_p2 (And.intro x_f_p2 (And.intro x_a_p2 x_e_p2)))))) ?_
      rotate_left
      · intro wq hSq
        go_simp
        exact rfl
      try simp only [Act.put, List.setIfInBounds_toArray, List.set_cons_zero, List.set_cons_succ]
      refine takeH 9 67 (v := ?vp9_5) rfl (by rfl) (by kernel_rfl) (by kernel_rfl) (by kernel_rfl) (fun _ _ _ h => h) (Or.inl ⟨by rfl, ?_⟩) ((And.intro x_d_p2 (And.intro x_t_p2 (And.intro x_c_p2 (And.intro x_f_p2 (And.intro x_a_p2 x_e_p2)))))) ?_
      rotate_left
      · intro wq hSq
        go_simp
        exact rfl
      try simp only [Act.put, List.setIfInBounds_toArray, List.set_cons_zero, List.set_cons_succ]
      refine takeH 6 64 (v := .agg ([.slice p1a us.length n1a, .slice p2a ds.length n2a]).toArray) rfl (by rfl) (by kernel_rfl) (by kernel_rfl) (by kernel_rfl) (fun _ _ _ h => h) (yieldsIf_load_mid (by rfl) _ _ rfl _ _ rfl ([.slice p1a us.length n1a, .slice p2a ds.length n2a]) _ (fun wq hq => Box.range (hq.2.2.2.2.1)) Try.underlying25 rfl (size_id12 _ _)) ((And.intro x_d_p2 (And.intro x_t_p2 (And.intro x_c_p2 (And.intro x_f_p2 (And.intro x_a_p2 x_e_p2)))))) ?_
      try simp only [Act.put, List.setIfInBounds_toArray, List.set_cons_zero, List.set_cons_succ]
      refine takeH 7 65 (v := .agg (F).toArray) rfl (by rfl) (by kernel_rfl) (by kernel_rfl) (by kernel_rfl) (fun _ _ _ h => h) (yieldsIf_load_mid (by rfl) _ _ rfl _ _ rfl (F) _ (fun wq hq => Box.range (hq.2.2.2.1)) Try.underlying47 rfl SF.out) ((And.intro x_d_p2 (And.intro x_t_p2 (And.intro x_c_p2 (And.intro x_f_p2 (And.intro x_a_p2 x_e_p2)))))) ?_
      try simp only [Act.put, List.setIfInBounds_toArray, List.set_cons_zero, List.set_cons_succ]
      refine wpAnyH_ready (rs := [8]) (by kernel_rfl) (by simp) (AllReadyH.cons rfl (fun K hK => ?_) AllReadyH.nil)
      go_simp
      refine (AF1 _ _ (Ia.out.below K_w3_p2)).mono ?_
      rintro e Wp6 ⟨rfl, hbp6⟩
      have x_d_p6 : Box Wp6 (w.heap.size) ([v1, v2]) := Box.below x_d_p2 hbp6
      have x_t_p6 : Box Wp6 (w.heap.size + 1) (V) := Box.below x_t_p2 hbp6
      have x_c_p6 : Box Wp6 (w.heap.size + 2) (C) := Box.below x_c_p2 hbp6
      have x_f_p6 : Box Wp6 (w.heap.size + 3) (F) := Box.below x_f_p2 hbp6
      have x_a_p6 : Box Wp6 (w3.heap.size) ([.slice p1a us.length n1a, .slice p2a ds.length n2a]) := Box.below x_a_p2 hbp6
      have x_e_p6 : Box Wp6 (w5.heap.size) ([.slice p1e us.length n1e, .slice p2e ds.length n2e]) := Box.below x_e_p2 hbp6
      have Bp6 := below_thru Bp2 hbp6
      have K_w3_p6 := below_thru K_w3_p2 hbp6
      have K_w5_p6 := below_thru K_w5_p2 hbp6
      clear x_d_p2 x_t_p2 x_c_p2 x_f_p2 x_a_p2 x_e_p2 Bp2 K_w3_p2 K_w5_p2 hbp6
      refine hK.out _ _ (And.intro x_d_p6 (And.intro x_t_p6 (And.intro x_c_p6 (And.intro x_f_p6 (And.intro x_a_p6 x_e_p6))))) (fun _ => ?_); clear hK K
      refine takeH 10 68 (v := ?vp10_7) rfl (by rfl) (by kernel_rfl) (by kernel_rfl) (by kernel_rfl) (fun _ _ _ h => h) (Or.inl ⟨by rfl, ?_⟩) ((And.intro x_d_p6 (And.intro x_t_p6 (And.intro x_c_p6 (And.intro x_f_p6 (And.intro x_a_p6 x_e_p6)))))) ?_
      rotate_left
      · intro wq hSq
        go_simp
        exact rfl
      try simp only [Act.put, List.setIfInBounds_toArray, List.set_cons_zero, List.set_cons_succ]
      refine takeH 11 69 (v := ?vp11_8) rfl (by rfl) (by kernel_rfl) (by kernel_rfl) (by kernel_rfl) (fun _ _ _ h => h) (Or.inl ⟨by rfl, ?_⟩) ((And.intro x_d_p6 (And.intro x_t_p6 (And.intro x_c_p6 (And.intro x_f_p6 (And.intro x_a_p6 x_e_p6)))))) ?_
      rotate_left
      · intro wq hSq
        go_simp
        exact rfl
      try simp only [Act.put, List.setIfInBounds_toArray, List.set_cons_zero, List.set_cons_succ]
      refine takeH 12 70 (v := ?vp12_9) rfl (by rfl) (by kernel_rfl) (by kernel_rfl) (by kernel_rfl) (fun _ _ _ h => h) (Or.inl ⟨by rfl, ?_⟩) ((And.intro x_d_p6 (And.intro x_t_p6 (And.intro x_c_p6 (And.intro x_f_p6 (And.intro x_a_p6 x_e_p6)))))) ?_
      rotate_left
      · intro wq hSq
        go_simp
        exact rfl
      try simp only [Act.put, List.setIfInBounds_toArray, List.set_cons_zero, List.set_cons_succ]
      refine takeH 13 71 (v := ?vp13_10) rfl (by rfl) (by kernel_rfl) (by kernel_rfl) (by kernel_rfl) (fun _ _ _ h => h) (Or.inl ⟨by rfl, ?_⟩) ((And.intro x_d_p6 (And.intro x_t_p6 (And.intro x_c_p6 (And.intro x_f_p6 (And.intro x_a_p6 x_e_p6)))))) ?_
      rotate_left
      · intro wq hSq
        go_simp
        exact rfl
      try simp only [Act.put, List.setIfInBounds_toArray, List.set_cons_zero, List.set_cons_succ]
      refine takeH 14 72 (v := ?vp14_11) rfl (by rfl) (by kernel_rfl) (by kernel_rfl) (by kernel_rfl) (fun _ _ _ h => h) (Or.inl ⟨by rfl, ?_⟩) ((And.intro x_d_p6 (And.intro x_t_p6 (And.intro x_c_p6 (And.intro x_f_p6 (And.intro x_a_p6 x_e_p6)))))) ?_
      rotate_left
      · intro wq hSq
        go_simp
        exact rfl
      try simp only [Act.put, List.setIfInBounds_toArray, List.set_cons_zero, List.set_cons_succ]
      refine takeH 15 73 (v := ?vp15_12) rfl (by rfl) (by kernel_rfl) (by kernel_rfl) (by kernel_rfl) (fun _ _ _ h => h) (Or.inl ⟨by rfl, ?_⟩) ((And.intro x_d_p6 (And.intro x_t_p6 (And.intro x_c_p6 (And.intro x_f_p6 (And.intro x_a_p6 x_e_p6)))))) ?_
      rotate_left
      · intro wq hSq
        go_simp
        exact rfl
      try simp only [Act.put, List.setIfInBounds_toArray, List.set_cons_zero, List.set_cons_succ]
      refine takeH 16 74 (v := ?vp16_13) rfl (by rfl) (by kernel_rfl) (by kernel_rfl) (by kernel_rfl) (fun _ _ _ h => h) (Or.inl ⟨by rfl, ?_⟩) ((And.intro x_d_p6 (And.intro x_t_p6 (And.intro x_c_p6 (And.intro x_f_p6 (And.intro x_a_p6 x_e_p6)))))) ?_
      rotate_left
      · intro wq hSq
        go_simp
        exact rfl
      try simp only [Act.put, List.setIfInBounds_toArray, List.set_cons_zero, List.set_cons_succ]
      refine takeH 17 75 (v := ?vp17_14) rfl (by rfl) (by kernel_rfl) (by kernel_rfl) (by kernel_rfl) (fun _ _ _ h => h) (Or.inl ⟨by rfl, ?_⟩) ((And.intro x_d_p6 (And.intro x_t_p6 (And.intro x_c_p6 (And.intro x_f_p6 (And.intro x_a_p6 x_e_p6)))))) ?_
      rotate_left
      · intro wq hSq
        go_simp
        exact rfl
      try simp only [Act.put, List.setIfInBounds_toArray, List.set_cons_zero, List.set_cons_succ]
      refine takeH 18 76 (v := ?vp18_15) rfl (by rfl) (by kernel_rfl) (by kernel_rfl) (by kernel_rfl) (fun _ _ _ h => h) (Or.inl ⟨by rfl, ?_⟩) ((And.intro x_d_p6 (And.intro x_t_p6 (And.intro x_c_p6 (And.intro x_f_p6 (And.intro x_a_p6 x_e_p6)))))) ?_
      rotate_left
      · intro wq hSq
        go_simp
        exact rfl
      try simp only [Act.put, List.setIfInBounds_toArray, List.set_cons_zero, List.set_cons_succ]
      refine takeH 19 77 (v := ?vp19_16) rfl (by rfl) (by kernel_rfl) (by kernel_rfl) (by kernel_rfl) (fun _ _ _ h => h) (Or.inl ⟨by rfl, ?_⟩) ((And.intro x_d_p6 (And.intro x_t_p6 (And.intro x_c_p6 (And.intro x_f_p6 (And.intro x_a_p6 x_e_p6)))))) ?_
      rotate_left
      · intro wq hSq
        go_simp
        exact rfl
      try simp only [Act.put, List.setIfInBounds_toArray, List.set_cons_zero, List.set_cons_succ]
      refine takeH 20 78 (v := .agg ([.slice p1e us.length n1e, .slice p2e ds.length n2e]).toArray) rfl (by rfl) (by kernel_rfl) (by kernel_rfl) (by kernel_rfl) (fun _ _ _ h => h) (yieldsIf_load_mid (by rfl) _ _ rfl _ _ rfl ([.slice p1e us.length n1e, .slice p2e ds.length n2e]) _ (fun wq hq => Box.range (hq.2.2.2.2.2)) Try.underlying25 rfl (size_id12 _ _)) ((And.intro x_d_p6 (And.intro x_t_p6 (And.intro x_c_p6 (And.intro x_f_p6 (And.intro x_a_p6 x_e_p6)))))) ?_
      try simp only [Act.put, List.setIfInBounds_toArray, List.set_cons_zero, List.set_cons_succ]
      refine takeH 21 79 (v := .agg ([.slice p1a us.length n1a, .slice p2a ds.length n2a]).toArray) rfl (by rfl) (by kernel_rfl) (by kernel_rfl) (by kernel_rfl) (fun _ _ _ h => h) (yieldsIf_load_mid (by rfl) _ _ rfl _ _ rfl ([.slice p1a us.length n1a, .slice p2a ds.length n2a]) _ (fun wq hq => Box.range (hq.2.2.2.2.1)) Try.underlying25 rfl (size_id12 _ _)) ((And.intro x_d_p6 (And.intro x_t_p6 (And.intro x_c_p6 (And.intro x_f_p6 (And.intro x_a_p6 x_e_p6)))))) ?_
      try simp only [Act.put, List.setIfInBounds_toArray, List.set_cons_zero, List.set_cons_succ]
      refine wpAnyH_ready (rs := [22]) (by kernel_rfl) (by simp) (AllReadyH.cons rfl (fun K hK => ?_) AllReadyH.nil)
      go_simp
      refine (SM _ _ _ _ _ (Ie.out.below K_w5_p6) (Ia.out.below K_w3_p6)).mono ?_
      rintro e Wp17 ⟨rfl, hbp17⟩
      have x_d_p17 : Box Wp17 (w.heap.size) ([v1, v2]) := Box.below x_d_p6 hbp17
      have x_t_p17 : Box Wp17 (w.heap.size + 1) (V) := Box.below x_t_p6 hbp17
      have x_c_p17 : Box Wp17 (w.heap.size + 2) (C) := Box.below x_c_p6 hbp17
      have x_f_p17 : Box Wp17 (w.heap.size + 3) (F) := Box.below x_f_p6 hbp17
      have x_a_p17 : Box Wp17 (w3.heap.size) ([.slice p1a us.length n1a, .slice p2a ds.length n2a]) := Box.below x_a_p6 hbp17
      have x_e_p17 : Box Wp17 (w5.heap.size) ([.slice p1e us.length n1e, .slice p2e ds.length n2e]) := Box.below x_e_p6 hbp17
      have Bp17 := below_thru Bp6 hbp17
      have K_w3_p17 := below_thru K_w3_p6 hbp17
      have K_w5_p17 := below_thru K_w5_p6 hbp17
      clear x_d_p6 x_t_p6 x_c_p6 x_f_p6 x_a_p6 x_e_p6 Bp6 K_w3_p6 K_w5_p6 hbp17
      refine hK.out _ _ (And.intro x_d_p17 (And.intro x_t_p17 (And.intro x_c_p17 (And.intro x_f_p17 (And.intro x_a_p17 x_e_p17))))) (fun _ => ?_); clear hK K
      refine takeH 23 81 (v := ?vp23_18) rfl (by rfl) (by kernel_rfl) (by kernel_rfl) (by kernel_rfl) (fun _ _ _ h => h) (Or.inl ⟨by rfl, ?_⟩) ((And.intro x_d_p17 (And.intro x_t_p17 (And.intro x_c_p17 (And.intro x_f_p17 (And.intro x_a_p17 x_e_p17)))))) ?_
      rotate_left
      · intro wq hSq
        go_simp
        exact rfl
      try simp only [Act.put, List.setIfInBounds_toArray, List.set_cons_zero, List.set_cons_succ]
      refine takeH 24 82 (v := ?vp24_19) rfl (by rfl) (by kernel_rfl) (by kernel_rfl) (by kernel_rfl) (fun _ _ _ h => h) (Or.inl ⟨by rfl, ?_⟩) ((And.intro x_d_p17 (And.intro x_t_p17 (And.intro x_c_p17 (And.intro x_f_p17 (And.intro x_a_p17 x_e_p17)))))) ?_
      rotate_left
      · intro wq hSq
        go_simp
        exact rfl
      try simp only [Act.put, List.setIfInBounds_toArray, List.set_cons_zero, List.set_cons_succ]
      refine wpAnyH_done (by kernel_rfl) ?_ _
      have hB7 := Bp17; have hs7 := hB7.size
      have x_d7 := x_d_p17
      have x_t7 := x_t_p17
      have x_c7 := x_c_p17
      have x_f7 := x_f_p17
      have x_a7 := x_a_p17
      have x_e7 := x_e_p17
      have K_w3_7 := K_w3_p17
      have K_w5_7 := K_w5_p17
      clear Bp17 x_d_p17 x_t_p17 x_c_p17 x_f_p17 x_a_p17 x_e_p17 K_w3_p17 K_w5_p17
      go_wp2_with fail
      go_meet
      exact ⟨rfl, x_d7, x_c7, x_f7, hB7⟩
    ·
      have AQ1 := AQ.out (by rw [e]; decide); subst e; clear AA AF PT2 AQ CA CF PC2 CN HQ HQ2
      clear K_w3_4
      clear x_a4
      clear Ia
      go_upto_region 12 with fail
      refine wp_region_held_drew (S := fun W => Box W (w.heap.size) ([v1, v2]) ∧ Box W (w.heap.size + 1) (V) ∧ Box W (w.heap.size + 2) (C) ∧ Box W (w.heap.size + 3) (F)) (by kernel_rfl) (And.intro (x_d4).drew (And.intro (x_t4).drew (And.intro (x_c4).drew (x_f4).drew))) (fun _ => ?_)
      refine F_drew (F := fun W => wpAnyH _ _ _ _ _ _ _ _ W) ?_
      intro Wpe0 hbpe0
      clear hs4
      have x_d_pe0 : Box Wpe0 (w.heap.size) ([v1, v2]) := Box.below x_d4 hbpe0
      have x_t_pe0 : Box Wpe0 (w.heap.size + 1) (V) := Box.below x_t4 hbpe0
      have x_c_pe0 : Box Wpe0 (w.heap.size + 2) (C) := Box.below x_c4 hbpe0
      have x_f_pe0 : Box Wpe0 (w.heap.size + 3) (F) := Box.below x_f4 hbpe0
      have Bpe0 := below_thru hB4 hbpe0
      clear x_d4 x_t4 x_c4 x_f4 hB4 hbpe0
      refine takeH 0 83 (v := .agg ([v1, v2]).toArray) rfl (by rfl) (by kernel_rfl) (by kernel_rfl) (by kernel_rfl) (fun _ _ _ h => h) (yieldsIf_load_mid (by rfl) _ _ rfl _ _ rfl ([v1, v2]) _ (fun wq hq => Box.range (hq.1)) Try.underlying25 rfl SD.out) ((And.intro x_d_pe0 (And.intro x_t_pe0 (And.intro x_c_pe0 x_f_pe0)))) ?_
      try simp only [Act.put, List.setIfInBounds_toArray, List.set_cons_zero, List.set_cons_succ]
      refine takeH 1 84 (v := .agg (V).toArray) rfl (by rfl) (by kernel_rfl) (by kernel_rfl) (by kernel_rfl) (fun _ _ _ h => h) (yieldsIf_load_mid (by rfl) _ _ rfl _ _ rfl (V) _ (fun wq hq => Box.range (hq.2.1)) Try.underlying34 rfl SV.out) ((And.intro x_d_pe0 (And.intro x_t_pe0 (And.intro x_c_pe0 x_f_pe0)))) ?_
      try simp only [Act.put, List.setIfInBounds_toArray, List.set_cons_zero, List.set_cons_succ]
      refine wpAnyH_ready (rs := [2]) (by kernel_rfl) (by simp) (AllReadyH.cons rfl (fun K hK => ?_) AllReadyH.nil)
      go_simp
      refine (RQ _).mono ?_
      rintro e Wpe1 ⟨rfl, hbpe1⟩
      have x_d_pe1 : Box Wpe1 (w.heap.size) ([v1, v2]) := Box.below x_d_pe0 hbpe1
      have x_t_pe1 : Box Wpe1 (w.heap.size + 1) (V) := Box.below x_t_pe0 hbpe1
      have x_c_pe1 : Box Wpe1 (w.heap.size + 2) (C) := Box.below x_c_pe0 hbpe1
      have x_f_pe1 : Box Wpe1 (w.heap.size + 3) (F) := Box.below x_f_pe0 hbpe1
      have Bpe1 := below_thru Bpe0 hbpe1
      clear x_d_pe0 x_t_pe0 x_c_pe0 x_f_pe0 Bpe0 hbpe1
      refine hK.out _ _ (And.intro x_d_pe1 (And.intro x_t_pe1 (And.intro x_c_pe1 x_f_pe1))) (fun _ => ?_); clear hK K
      refine wpAnyH_ready (rs := [3]) (by kernel_rfl) (by simp) (AllReadyH.cons rfl (fun K hK => ?_) AllReadyH.nil)
      go_simp
      refine (AQ1 _ _ (HD.out.below Bpe1)).mono ?_
      rintro e Wpe2 ⟨rfl, hbpe2⟩
      have x_d_pe2 : Box Wpe2 (w.heap.size) ([v1, v2]) := Box.below x_d_pe1 hbpe2
      have x_t_pe2 : Box Wpe2 (w.heap.size + 1) (V) := Box.below x_t_pe1 hbpe2
      have x_c_pe2 : Box Wpe2 (w.heap.size + 2) (C) := Box.below x_c_pe1 hbpe2
      have x_f_pe2 : Box Wpe2 (w.heap.size + 3) (F) := Box.below x_f_pe1 hbpe2
      have Bpe2 := below_thru Bpe1 hbpe2
      clear x_d_pe1 x_t_pe1 x_c_pe1 x_f_pe1 Bpe1 hbpe2
      refine hK.out _ _ (And.intro x_d_pe2 (And.intro x_t_pe2 (And.intro x_c_pe2 x_f_pe2))) (fun _ => ?_); clear hK K
      refine takeH 4 87 (v := ?vpe4_3) rfl (by rfl) (by kernel_rfl) (by kernel_rfl) (by kernel_rfl) (fun _ _ _ h => h) (Or.inl ⟨by rfl, ?_⟩) ((And.intro x_d_pe2 (And.intro x_t_pe2 (And.intro x_c_pe2 x_f_pe2)))) ?_
      rotate_left
      · intro wq hSq
        go_simp
        exact rfl
      try simp only [Act.put, List.setIfInBounds_toArray, List.set_cons_zero, List.set_cons_succ]
      refine takeH 5 88 (v := ?vpe5_4) rfl (by rfl) (by kernel_rfl) (by kernel_rfl) (by kernel_rfl) (fun _ _ _ h => h) (Or.inl ⟨by rfl, ?_⟩) ((And.intro x_d_pe2 (And.intro x_t_pe2 (And.intro x_c_pe2 x_f_pe2)))) ?_
      rotate_left
      · intro wq hSq
        go_simp
        exact rfl
      try simp only [Act.put, List.setIfInBounds_toArray, List.set_cons_zero, List.set_cons_succ]
      refine takeH 6 89 (v := ?vpe6_5) rfl (by rfl) (by kernel_rfl) (by kernel_rfl) (by kernel_rfl) (fun _ _ _ h => h) (Or.inl ⟨by rfl, ?_⟩) ((And.intro x_d_pe2 (And.intro x_t_pe2 (And.intro x_c_pe2 x_f_pe2)))) ?_
      rotate_left
      · intro wq hSq
        go_simp
        exact rfl
      try simp only [Act.put, List.setIfInBounds_toArray, List.set_cons_zero, List.set_cons_succ]
      refine takeH 7 90 (v := ?vpe7_6) rfl (by rfl) (by kernel_rfl) (by kernel_rfl) (by kernel_rfl) (fun _ _ _ h => h) (Or.inl ⟨by rfl, ?_⟩) ((And.intro x_d_pe2 (And.intro x_t_pe2 (And.intro x_c_pe2 x_f_pe2)))) ?_
      rotate_left
      · intro wq hSq
        go_simp
        exact rfl
      try simp only [Act.put, List.setIfInBounds_toArray, List.set_cons_zero, List.set_cons_succ]
      refine takeH 8 91 (v := undef) rfl (by rfl) (by kernel_rfl) (by kernel_rfl) (by kernel_rfl) (fun _ _ _ h => h) (Or.inr ⟨by rfl, rfl⟩) ((And.intro x_d_pe2 (And.intro x_t_pe2 (And.intro x_c_pe2 x_f_pe2)))) ?_
      try simp only [Act.put, List.setIfInBounds_toArray, List.set_cons_zero, List.set_cons_succ]
      refine takeH 9 92 (v := undef) rfl (by rfl) (by kernel_rfl) (by kernel_rfl) (by kernel_rfl) (fun _ _ _ h => h) (Or.inr ⟨by rfl, rfl⟩) ((And.intro x_d_pe2 (And.intro x_t_pe2 (And.intro x_c_pe2 x_f_pe2)))) ?_
      try simp only [Act.put, List.setIfInBounds_toArray, List.set_cons_zero, List.set_cons_succ]
      refine takeH 10 93 (v := ?vpe10_7) rfl (by rfl) (by kernel_rfl) (by kernel_rfl) (by kernel_rfl) (fun _ _ _ h => h) (Or.inl ⟨by rfl, ?_⟩) ((And.intro x_d_pe2 (And.intro x_t_pe2 (And.intro x_c_pe2 x_f_pe2)))) ?_
      rotate_left
      · intro wq hSq
        go_simp
        exact rfl
      try simp only [Act.put, List.setIfInBounds_toArray, List.set_cons_zero, List.set_cons_succ]
      refine takeH 11 94 (v := ?vpe11_8) rfl (by rfl) (by kernel_rfl) (by kernel_rfl) (by kernel_rfl) (fun _ _ _ h => h) (Or.inl ⟨by rfl, ?_⟩) ((And.intro x_d_pe2 (And.intro x_t_pe2 (And.intro x_c_pe2 x_f_pe2)))) ?_
      rotate_left
      · intro wq hSq
        go_simp
        exact rfl
      try simp only [Act.put, List.setIfInBounds_toArray, List.set_cons_zero, List.set_cons_succ]
      refine takeH 12 95 (v := undef) rfl (by rfl) (by kernel_rfl) (by kernel_rfl) (by kernel_rfl) (fun _ _ _ h => h) (Or.inr ⟨by rfl, rfl⟩) ((And.intro x_d_pe2 (And.intro x_t_pe2 (And.intro x_c_pe2 x_f_pe2)))) ?_
      try simp only [Act.put, List.setIfInBounds_toArray, List.set_cons_zero, List.set_cons_succ]
      refine takeH 13 96 (v := undef) rfl (by rfl) (by kernel_rfl) (by kernel_rfl) (by kernel_rfl) (fun _ _ _ h => h) (Or.inr ⟨by rfl, rfl⟩) ((And.intro x_d_pe2 (And.intro x_t_pe2 (And.intro x_c_pe2 x_f_pe2)))) ?_
      try simp only [Act.put, List.setIfInBounds_toArray, List.set_cons_zero, List.set_cons_succ]
      refine takeH 14 97 (v := ?vpe14_9) rfl (by rfl) (by kernel_rfl) (by kernel_rfl) (by kernel_rfl) (fun _ _ _ h => h) (Or.inl ⟨by rfl, ?_⟩) ((And.intro x_d_pe2 (And.intro x_t_pe2 (And.intro x_c_pe2 x_f_pe2)))) ?_
      rotate_left
      · intro wq hSq
        go_simp
        exact rfl
      try simp only [Act.put, List.setIfInBounds_toArray, List.set_cons_zero, List.set_cons_succ]
      refine takeH 15 98 (v := ?vpe15_10) rfl (by rfl) (by kernel_rfl) (by kernel_rfl) (by kernel_rfl) (fun _ _ _ h => h) (Or.inl ⟨by rfl, ?_⟩) ((And.intro x_d_pe2 (And.intro x_t_pe2 (And.intro x_c_pe2 x_f_pe2)))) ?_
      rotate_left
      · intro wq hSq
        go_simp
        exact rfl
      try simp only [Act.put, List.setIfInBounds_toArray, List.set_cons_zero, List.set_cons_succ]
      refine wpAnyH_done (by kernel_rfl) ?_ _
      have hB5 := Bpe2; have hs5 := hB5.size
      have x_d5 := x_d_pe2
      have x_t5 := x_t_pe2
      have x_c5 := x_c_pe2
      have x_f5 := x_f_pe2
      clear Bpe2 x_d_pe2 x_t_pe2 x_c_pe2 x_f_pe2
      go_wp2_with fail
      go_meet
      exact ⟨rfl, x_d5, x_c5, x_f5, hB5⟩
    ·
      have AQ1 := AQ.out (by rw [e]; decide); subst e; clear AA AF PT2 AQ CA CF PC2 CN HQ HQ2
      clear K_w3_4
      clear x_a4
      clear Ia
      go_upto_region 12 with fail
      refine wp_region_held_drew (S := fun W => Box W (w.heap.size) ([v1, v2]) ∧ Box W (w.heap.size + 1) (V) ∧ Box W (w.heap.size + 2) (C) ∧ Box W (w.heap.size + 3) (F)) (by kernel_rfl) (And.intro (x_d4).drew (And.intro (x_t4).drew (And.intro (x_c4).drew (x_f4).drew))) (fun _ => ?_)
      refine F_drew (F := fun W => wpAnyH _ _ _ _ _ _ _ _ W) ?_
      intro Wpf0 hbpf0
      clear hs4
      have x_d_pf0 : Box Wpf0 (w.heap.size) ([v1, v2]) := Box.below x_d4 hbpf0
      have x_t_pf0 : Box Wpf0 (w.heap.size + 1) (V) := Box.below x_t4 hbpf0
      have x_c_pf0 : Box Wpf0 (w.heap.size + 2) (C) := Box.below x_c4 hbpf0
      have x_f_pf0 : Box Wpf0 (w.heap.size + 3) (F) := Box.below x_f4 hbpf0
      have Bpf0 := below_thru hB4 hbpf0
      clear x_d4 x_t4 x_c4 x_f4 hB4 hbpf0
      refine takeH 0 83 (v := .agg ([v1, v2]).toArray) rfl (by rfl) (by kernel_rfl) (by kernel_rfl) (by kernel_rfl) (fun _ _ _ h => h) (yieldsIf_load_mid (by rfl) _ _ rfl _ _ rfl ([v1, v2]) _ (fun wq hq => Box.range (hq.1)) Try.underlying25 rfl SD.out) ((And.intro x_d_pf0 (And.intro x_t_pf0 (And.intro x_c_pf0 x_f_pf0)))) ?_
      try simp only [Act.put, List.setIfInBounds_toArray, List.set_cons_zero, List.set_cons_succ]
      refine takeH 1 84 (v := .agg (V).toArray) rfl (by rfl) (by kernel_rfl) (by kernel_rfl) (by kernel_rfl) (fun _ _ _ h => h) (yieldsIf_load_mid (by rfl) _ _ rfl _ _ rfl (V) _ (fun wq hq => Box.range (hq.2.1)) Try.underlying34 rfl SV.out) ((And.intro x_d_pf0 (And.intro x_t_pf0 (And.intro x_c_pf0 x_f_pf0)))) ?_
      try simp only [Act.put, List.setIfInBounds_toArray, List.set_cons_zero, List.set_cons_succ]
      refine wpAnyH_ready (rs := [2]) (by kernel_rfl) (by simp) (AllReadyH.cons rfl (fun K hK => ?_) AllReadyH.nil)
      go_simp
      refine (RQ _).mono ?_
      rintro e Wpf1 ⟨rfl, hbpf1⟩
      have x_d_pf1 : Box Wpf1 (w.heap.size) ([v1, v2]) := Box.below x_d_pf0 hbpf1
      have x_t_pf1 : Box Wpf1 (w.heap.size + 1) (V) := Box.below x_t_pf0 hbpf1
      have x_c_pf1 : Box Wpf1 (w.heap.size + 2) (C) := Box.below x_c_pf0 hbpf1
      have x_f_pf1 : Box Wpf1 (w.heap.size + 3) (F) := Box.below x_f_pf0 hbpf1
      have Bpf1 := below_thru Bpf0 hbpf1
      clear x_d_pf0 x_t_pf0 x_c_pf0 x_f_pf0 Bpf0 hbpf1
      refine hK.out _ _ (And.intro x_d_pf1 (And.intro x_t_pf1 (And.intro x_c_pf1 x_f_pf1))) (fun _ => ?_); clear hK K
      refine wpAnyH_ready (rs := [3]) (by kernel_rfl) (by simp) (AllReadyH.cons rfl (fun K hK => ?_) AllReadyH.nil)
      go_simp
      refine (AQ1 _ _ (HD.out.below Bpf1)).mono ?_
      rintro e Wpf2 ⟨rfl, hbpf2⟩
      have x_d_pf2 : Box Wpf2 (w.heap.size) ([v1, v2]) := Box.below x_d_pf1 hbpf2
      have x_t_pf2 : Box Wpf2 (w.heap.size + 1) (V) := Box.below x_t_pf1 hbpf2
      have x_c_pf2 : Box Wpf2 (w.heap.size + 2) (C) := Box.below x_c_pf1 hbpf2
      have x_f_pf2 : Box Wpf2 (w.heap.size + 3) (F) := Box.below x_f_pf1 hbpf2
      have Bpf2 := below_thru Bpf1 hbpf2
      clear x_d_pf1 x_t_pf1 x_c_pf1 x_f_pf1 Bpf1 hbpf2
      refine hK.out _ _ (And.intro x_d_pf2 (And.intro x_t_pf2 (And.intro x_c_pf2 x_f_pf2))) (fun _ => ?_); clear hK K
      refine takeH 4 87 (v := ?vpf4_3) rfl (by rfl) (by kernel_rfl) (by kernel_rfl) (by kernel_rfl) (fun _ _ _ h => h) (Or.inl ⟨by rfl, ?_⟩) ((And.intro x_d_pf2 (And.intro x_t_pf2 (And.intro x_c_pf2 x_f_pf2)))) ?_
      rotate_left
      · intro wq hSq
        go_simp
        exact rfl
      try simp only [Act.put, List.setIfInBounds_toArray, List.set_cons_zero, List.set_cons_succ]
      refine takeH 5 88 (v := ?vpf5_4) rfl (by rfl) (by kernel_rfl) (by kernel_rfl) (by kernel_rfl) (fun _ _ _ h => h) (Or.inl ⟨by rfl, ?_⟩) ((And.intro x_d_pf2 (And.intro x_t_pf2 (And.intro x_c_pf2 x_f_pf2)))) ?_
      rotate_left
      · intro wq hSq
        go_simp
        exact rfl
      try simp only [Act.put, List.setIfInBounds_toArray, List.set_cons_zero, List.set_cons_succ]
      refine takeH 6 89 (v := ?vpf6_5) rfl (by rfl) (by kernel_rfl) (by kernel_rfl) (by kernel_rfl) (fun _ _ _ h => h) (Or.inl ⟨by rfl, ?_⟩) ((And.intro x_d_pf2 (And.intro x_t_pf2 (And.intro x_c_pf2 x_f_pf2)))) ?_
      rotate_left
      · intro wq hSq
        go_simp
        exact rfl
      try simp only [Act.put, List.setIfInBounds_toArray, List.set_cons_zero, List.set_cons_succ]
      refine takeH 7 90 (v := ?vpf7_6) rfl (by rfl) (by kernel_rfl) (by kernel_rfl) (by kernel_rfl) (fun _ _ _ h => h) (Or.inl ⟨by rfl, ?_⟩) ((And.intro x_d_pf2 (And.intro x_t_pf2 (And.intro x_c_pf2 x_f_pf2)))) ?_
      rotate_left
      · intro wq hSq
        go_simp
        exact rfl
      try simp only [Act.put, List.setIfInBounds_toArray, List.set_cons_zero, List.set_cons_succ]
      refine takeH 8 91 (v := ?vpf8_7) rfl (by rfl) (by kernel_rfl) (by kernel_rfl) (by kernel_rfl) (fun _ _ _ h => h) (Or.inl ⟨by rfl, ?_⟩) ((And.intro x_d_pf2 (And.intro x_t_pf2 (And.intro x_c_pf2 x_f_pf2)))) ?_
      rotate_left
      · intro wq hSq
        go_simp
        exact rfl
      try simp only [Act.put, List.setIfInBounds_toArray, List.set_cons_zero, List.set_cons_succ]
      refine takeH 9 92 (v := ?vpf9_8) rfl (by rfl) (by kernel_rfl) (by kernel_rfl) (by kernel_rfl) (fun _ _ _ h => h) (Or.inl ⟨by rfl, ?_⟩) ((And.intro x_d_pf2 (And.intro x_t_pf2 (And.intro x_c_pf2 x_f_pf2)))) ?_
      rotate_left
      · intro wq hSq
        go_simp
        exact rfl
      try simp only [Act.put, List.setIfInBounds_toArray, List.set_cons_zero, List.set_cons_succ]
      refine takeH 10 93 (v := ?vpf10_9) rfl (by rfl) (by kernel_rfl) (by kernel_rfl) (by kernel_rfl) (fun _ _ _ h => h) (Or.inl ⟨by rfl, ?_⟩) ((And.intro x_d_pf2 (And.intro x_t_pf2 (And.intro x_c_pf2 x_f_pf2)))) ?_
      rotate_left
      · intro wq hSq
        go_simp
        exact rfl
      try simp only [Act.put, List.setIfInBounds_toArray, List.set_cons_zero, List.set_cons_succ]
      refine takeH 11 94 (v := ?vpf11_10) rfl (by rfl) (by kernel_rfl) (by kernel_rfl) (by kernel_rfl) (fun _ _ _ h => h) (Or.inl ⟨by rfl, ?_⟩) ((And.intro x_d_pf2 (And.intro x_t_pf2 (And.intro x_c_pf2 x_f_pf2)))) ?_
      rotate_left
      · intro wq hSq
        go_simp
        exact rfl
      try simp only [Act.put, List.setIfInBounds_toArray, List.set_cons_zero, List.set_cons_succ]
      refine takeH 12 95 (v := undef) rfl (by rfl) (by kernel_rfl) (by kernel_rfl) (by kernel_rfl) (fun _ _ _ h => h) (Or.inr ⟨by rfl, rfl⟩) ((And.intro x_d_pf2 (And.intro x_t_pf2 (And.intro x_c_pf2 x_f_pf2)))) ?_
      try simp only [Act.put, List.setIfInBounds_toArray, List.set_cons_zero, List.set_cons_succ]
      refine takeH 13 96 (v := undef) rfl (by rfl) (by kernel_rfl) (by kernel_rfl) (by kernel_rfl) (fun _ _ _ h => h) (Or.inr ⟨by rfl, rfl⟩) ((And.intro x_d_pf2 (And.intro x_t_pf2 (And.intro x_c_pf2 x_f_pf2)))) ?_
      try simp only [Act.put, List.setIfInBounds_toArray, List.set_cons_zero, List.set_cons_succ]
      refine takeH 14 97 (v := ?vpf14_11) rfl (by rfl) (by kernel_rfl) (by kernel_rfl) (by kernel_rfl) (fun _ _ _ h => h) (Or.inl ⟨by rfl, ?_⟩) ((And.intro x_d_pf2 (And.intro x_t_pf2 (And.intro x_c_pf2 x_f_pf2)))) ?_
      rotate_left
      · intro wq hSq
        go_simp
        exact rfl
      try simp only [Act.put, List.setIfInBounds_toArray, List.set_cons_zero, List.set_cons_succ]
      refine takeH 15 98 (v := ?vpf15_12) rfl (by rfl) (by kernel_rfl) (by kernel_rfl) (by kernel_rfl) (fun _ _ _ h => h) (Or.inl ⟨by rfl, ?_⟩) ((And.intro x_d_pf2 (And.intro x_t_pf2 (And.intro x_c_pf2 x_f_pf2)))) ?_
      rotate_left
      · intro wq hSq
        go_simp
        exact rfl
      try simp only [Act.put, List.setIfInBounds_toArray, List.set_cons_zero, List.set_cons_succ]
      refine wpAnyH_done (by kernel_rfl) ?_ _
      have hB5 := Bpf2; have hs5 := hB5.size
      have x_d5 := x_d_pf2
      have x_t5 := x_t_pf2
      have x_c5 := x_c_pf2
      have x_f5 := x_f_pf2
      clear Bpf2 x_d_pf2 x_t_pf2 x_c_pf2 x_f_pf2
      go_wp2_with fail
      go_meet
      exact ⟨rfl, x_d5, x_c5, x_f5, hB5⟩
    ·
      have AQ1 := AQ.out (by rw [e]; decide); subst e; clear AA AF PT2 AQ CA CF PC2 CN HQ HQ2
      clear K_w3_4
      clear x_a4
      clear Ia
      go_upto_region 12 with fail
      refine wp_region_held_drew (S := fun W => Box W (w.heap.size) ([v1, v2]) ∧ Box W (w.heap.size + 1) (V) ∧ Box W (w.heap.size + 2) (C) ∧ Box W (w.heap.size + 3) (F)) (by kernel_rfl) (And.intro (x_d4).drew (And.intro (x_t4).drew (And.intro (x_c4).drew (x_f4).drew))) (fun _ => ?_)
      refine F_drew (F := fun W => wpAnyH _ _ _ _ _ _ _ _ W) ?_
      intro Wpg0 hbpg0
      clear hs4
      have x_d_pg0 : Box Wpg0 (w.heap.size) ([v1, v2]) := Box.below x_d4 hbpg0
      have x_t_pg0 : Box Wpg0 (w.heap.size + 1) (V) := Box.below x_t4 hbpg0
      have x_c_pg0 : Box Wpg0 (w.heap.size + 2) (C) := Box.below x_c4 hbpg0
      have x_f_pg0 : Box Wpg0 (w.heap.size + 3) (F) := Box.below x_f4 hbpg0
      have Bpg0 := below_thru hB4 hbpg0
      clear x_d4 x_t4 x_c4 x_f4 hB4 hbpg0
      refine takeH 0 83 (v := .agg ([v1, v2]).toArray) rfl (by rfl) (by kernel_rfl) (by kernel_rfl) (by kernel_rfl) (fun _ _ _ h => h) (yieldsIf_load_mid (by rfl) _ _ rfl _ _ rfl ([v1, v2]) _ (fun wq hq => Box.range (hq.1)) Try.underlying25 rfl SD.out) ((And.intro x_d_pg0 (And.intro x_t_pg0 (And.intro x_c_pg0 x_f_pg0)))) ?_
      try simp only [Act.put, List.setIfInBounds_toArray, List.set_cons_zero, List.set_cons_succ]
      refine takeH 1 84 (v := .agg (V).toArray) rfl (by rfl) (by kernel_rfl) (by kernel_rfl) (by kernel_rfl) (fun _ _ _ h => h) (yieldsIf_load_mid (by rfl) _ _ rfl _ _ rfl (V) _ (fun wq hq => Box.range (hq.2.1)) Try.underlying34 rfl SV.out) ((And.intro x_d_pg0 (And.intro x_t_pg0 (And.intro x_c_pg0 x_f_pg0)))) ?_
      try simp only [Act.put, List.setIfInBounds_toArray, List.set_cons_zero, List.set_cons_succ]
      refine wpAnyH_ready (rs := [2]) (by kernel_rfl) (by simp) (AllReadyH.cons rfl (fun K hK => ?_) AllReadyH.nil)
      go_simp
      refine (RQ _).mono ?_
      rintro e Wpg1 ⟨rfl, hbpg1⟩
      have x_d_pg1 : Box Wpg1 (w.heap.size) ([v1, v2]) := Box.below x_d_pg0 hbpg1
      have x_t_pg1 : Box Wpg1 (w.heap.size + 1) (V) := Box.below x_t_pg0 hbpg1
      have x_c_pg1 : Box Wpg1 (w.heap.size + 2) (C) := Box.below x_c_pg0 hbpg1
      have x_f_pg1 : Box Wpg1 (w.heap.size + 3) (F) := Box.below x_f_pg0 hbpg1
      have Bpg1 := below_thru Bpg0 hbpg1
      clear x_d_pg0 x_t_pg0 x_c_pg0 x_f_pg0 Bpg0 hbpg1
      refine hK.out _ _ (And.intro x_d_pg1 (And.intro x_t_pg1 (And.intro x_c_pg1 x_f_pg1))) (fun _ => ?_); clear hK K
      refine wpAnyH_ready (rs := [3]) (by kernel_rfl) (by simp) (AllReadyH.cons rfl (fun K hK => ?_) AllReadyH.nil)
      go_simp
      refine (AQ1 _ _ (HD.out.below Bpg1)).mono ?_
      rintro e Wpg2 ⟨rfl, hbpg2⟩
      have x_d_pg2 : Box Wpg2 (w.heap.size) ([v1, v2]) := Box.below x_d_pg1 hbpg2
      have x_t_pg2 : Box Wpg2 (w.heap.size + 1) (V) := Box.below x_t_pg1 hbpg2
      have x_c_pg2 : Box Wpg2 (w.heap.size + 2) (C) := Box.below x_c_pg1 hbpg2
      have x_f_pg2 : Box Wpg2 (w.heap.size + 3) (F) := Box.below x_f_pg1 hbpg2
      have Bpg2 := below_thru Bpg1 hbpg2
      clear x_d_pg1 x_t_pg1 x_c_pg1 x_f_pg1 Bpg1 hbpg2
      refine hK.out _ _ (And.intro x_d_pg2 (And.intro x_t_pg2 (And.intro x_c_pg2 x_f_pg2))) (fun _ => ?_); clear hK K
      refine takeH 4 87 (v := ?vpg4_3) rfl (by rfl) (by kernel_rfl) (by kernel_rfl) (by kernel_rfl) (fun _ _ _ h => h) (Or.inl ⟨by rfl, ?_⟩) ((And.intro x_d_pg2 (And.intro x_t_pg2 (And.intro x_c_pg2 x_f_pg2)))) ?_
      rotate_left
      · intro wq hSq
        go_simp
        exact rfl
      try simp only [Act.put, List.setIfInBounds_toArray, List.set_cons_zero, List.set_cons_succ]
      refine takeH 5 88 (v := ?vpg5_4) rfl (by rfl) (by kernel_rfl) (by kernel_rfl) (by kernel_rfl) (fun _ _ _ h => h) (Or.inl ⟨by rfl, ?_⟩) ((And.intro x_d_pg2 (And.intro x_t_pg2 (And.intro x_c_pg2 x_f_pg2)))) ?_
      rotate_left
      · intro wq hSq
        go_simp
        exact rfl
      try simp only [Act.put, List.setIfInBounds_toArray, List.set_cons_zero, List.set_cons_succ]
      refine takeH 6 89 (v := ?vpg6_5) rfl (by rfl) (by kernel_rfl) (by kernel_rfl) (by kernel_rfl) (fun _ _ _ h => h) (Or.inl ⟨by rfl, ?_⟩) ((And.intro x_d_pg2 (And.intro x_t_pg2 (And.intro x_c_pg2 x_f_pg2)))) ?_
      rotate_left
      · intro wq hSq
        go_simp
        exact rfl
      try simp only [Act.put, List.setIfInBounds_toArray, List.set_cons_zero, List.set_cons_succ]
      refine takeH 7 90 (v := ?vpg7_6) rfl (by rfl) (by kernel_rfl) (by kernel_rfl) (by kernel_rfl) (fun _ _ _ h => h) (Or.inl ⟨by rfl, ?_⟩) ((And.intro x_d_pg2 (And.intro x_t_pg2 (And.intro x_c_pg2 x_f_pg2)))) ?_
      rotate_left
      · intro wq hSq
        go_simp
        exact rfl
      try simp only [Act.put, List.setIfInBounds_toArray, List.set_cons_zero, List.set_cons_succ]
      refine takeH 8 91 (v := ?vpg8_7) rfl (by rfl) (by kernel_rfl) (by kernel_rfl) (by kernel_rfl) (fun _ _ _ h => h) (Or.inl ⟨by rfl, ?_⟩) ((And.intro x_d_pg2 (And.intro x_t_pg2 (And.intro x_c_pg2 x_f_pg2)))) ?_
      rotate_left
      · intro wq hSq
        go_simp
        exact rfl
      try simp only [Act.put, List.setIfInBounds_toArray, List.set_cons_zero, List.set_cons_succ]
      refine takeH 9 92 (v := ?vpg9_8) rfl (by rfl) (by kernel_rfl) (by kernel_rfl) (by kernel_rfl) (fun _ _ _ h => h) (Or.inl ⟨by rfl, ?_⟩) ((And.intro x_d_pg2 (And.intro x_t_pg2 (And.intro x_c_pg2 x_f_pg2)))) ?_
      rotate_left
      · intro wq hSq
        go_simp
        exact rfl
      try simp only [Act.put, List.setIfInBounds_toArray, List.set_cons_zero, List.set_cons_succ]
      refine takeH 10 93 (v := ?vpg10_9) rfl (by rfl) (by kernel_rfl) (by kernel_rfl) (by kernel_rfl) (fun _ _ _ h => h) (Or.inl ⟨by rfl, ?_⟩) ((And.intro x_d_pg2 (And.intro x_t_pg2 (And.intro x_c_pg2 x_f_pg2)))) ?_
      rotate_left
      · intro wq hSq
        go_simp
        exact rfl
      try simp only [Act.put, List.setIfInBounds_toArray, List.set_cons_zero, List.set_cons_succ]
      refine takeH 11 94 (v := ?vpg11_10) rfl (by rfl) (by kernel_rfl) (by kernel_rfl) (by kernel_rfl) (fun _ _ _ h => h) (Or.inl ⟨by rfl, ?_⟩) ((And.intro x_d_pg2 (And.intro x_t_pg2 (And.intro x_c_pg2 x_f_pg2)))) ?_
      rotate_left
      · intro wq hSq
        go_simp
        exact rfl
      try simp only [Act.put, List.setIfInBounds_toArray, List.set_cons_zero, List.set_cons_succ]
      refine takeH 12 95 (v := ?vpg12_11) rfl (by rfl) (by kernel_rfl) (by kernel_rfl) (by kernel_rfl) (fun _ _ _ h => h) (Or.inl ⟨by rfl, ?_⟩) ((And.intro x_d_pg2 (And.intro x_t_pg2 (And.intro x_c_pg2 x_f_pg2)))) ?_
      rotate_left
      · intro wq hSq
        go_simp
        exact rfl
      try simp only [Act.put, List.setIfInBounds_toArray, List.set_cons_zero, List.set_cons_succ]
      refine takeH 13 96 (v := ?vpg13_12) rfl (by rfl) (by kernel_rfl) (by kernel_rfl) (by kernel_rfl) (fun _ _ _ h => h) (Or.inl ⟨by rfl, ?_⟩) ((And.intro x_d_pg2 (And.intro x_t_pg2 (And.intro x_c_pg2 x_f_pg2)))) ?_
      rotate_left
      · intro wq hSq
        go_simp
        exact rfl
      try simp only [Act.put, List.setIfInBounds_toArray, List.set_cons_zero, List.set_cons_succ]
      refine takeH 14 97 (v := ?vpg14_13) rfl (by rfl) (by kernel_rfl) (by kernel_rfl) (by kernel_rfl) (fun _ _ _ h => h) (Or.inl ⟨by rfl, ?_⟩) ((And.intro x_d_pg2 (And.intro x_t_pg2 (And.intro x_c_pg2 x_f_pg2)))) ?_
      rotate_left
      · intro wq hSq
        go_simp
        exact rfl
      try simp only [Act.put, List.setIfInBounds_toArray, List.set_cons_zero, List.set_cons_succ]
      refine takeH 15 98 (v := ?vpg15_14) rfl (by rfl) (by kernel_rfl) (by kernel_rfl) (by kernel_rfl) (fun _ _ _ h => h) (Or.inl ⟨by rfl, ?_⟩) ((And.intro x_d_pg2 (And.intro x_t_pg2 (And.intro x_c_pg2 x_f_pg2)))) ?_
      rotate_left
      · intro wq hSq
        go_simp
        exact rfl
      try simp only [Act.put, List.setIfInBounds_toArray, List.set_cons_zero, List.set_cons_succ]
      refine wpAnyH_done (by kernel_rfl) ?_ _
      have hB5 := Bpg2; have hs5 := hB5.size
      have x_d5 := x_d_pg2
      have x_t5 := x_t_pg2
      have x_c5 := x_c_pg2
      have x_f5 := x_f_pg2
      clear Bpg2 x_d_pg2 x_t_pg2 x_c_pg2 x_f_pg2
      go_wp2_with fail
      go_meet
      exact ⟨rfl, x_d5, x_c5, x_f5, hB5⟩
  case rest =>
    clear x_d4 x_t4 x_c4 x_f4 x_a4 hB4 hs4 K_w3_4 Ia AA AF PT2 AQ PT RQ HQ
    obtain ⟨rfl, y_d, y_c, y_f, y_B⟩ := hcut
    obtain ⟨W3, rfl⟩ : ∃ x : World, x = wc := ⟨_, rfl⟩
    have x_d5 : Box W3 (w.heap.size) ([v1, v2]) := y_d
    have x_c5 : Box W3 (w.heap.size + 2) (C) := y_c
    have x_f5 : Box W3 (w.heap.size + 3) (F) := y_f
    have hB5 : Below w.heap.size w W3 := y_B; have hs5 := hB5.size; clear y_d y_c y_f y_B
    go_wp2_with (first
      | (refine wpList_load_box9 rfl _ _ rfl x_d5 rfl Try.underlying25 rfl SD.out ?_)
      | (refine wpList_load_box9 rfl _ _ rfl x_c5 rfl Try.underlying39 rfl SC.out ?_))
    refine (PC _ _ (HD.out.below hB5)).mono ?_
    rintro e w6 ⟨x1b, x2b, rfl, o1b, o2b, hb⟩
    have Ib : Hid (IsD w6 (.agg #[x1b, x2b]) us2 ds2) := Lib.hid ⟨_, _, rfl, IsR.own o1b rfl rfl, IsR.own o2b rfl rfl⟩
    obtain ⟨p1b, n1b, rfl⟩ := own_slR o1b; obtain ⟨p2b, n2b, rfl⟩ := own_slR o2b
    have hB6 : Below w.heap.size w w6 := below_thru hB5 hb
    have hs6 := hB6.size
    have x_d6 : Box w6 (w.heap.size) ([v1, v2]) := Box.below x_d5 hb
    have x_c6 : Box w6 (w.heap.size + 2) (C) := Box.below x_c5 hb
    have x_f6 : Box w6 (w.heap.size + 3) (F) := Box.below x_f5 hb
    clear hB5 hs5 x_d5 x_c5 x_f5
    clear hb
    clear o1b o2b
    have K_w6_6 : Below w6.heap.size w6 w6 := Below.refl _ _
    have d_b_d := (x_d6).lt
    have d_b_c := (x_c6).lt
    have d_b_f := (x_f6).lt
    have d_b_0 := hs6
    go_upto_region 15 with (refine wpList_store_box (cs := [.slice p1b us2.length n1b, .slice p2b ds2.length n2b]) rfl _ _ _ rfl (Box.newc (l := id0) rfl rfl) rfl rfl (size_id12 _ _) rfl (one_id12 _ _ _ _ _ _) ?_; intro W6_0 hW6_0)
    have hN : Below w6.heap.size w6 W6_0 := (hW6_0.below _ _ (by omega) ((Below.refl _ w6).alloc (Nat.le_refl _) _))
    have x_b7 : Box W6_0 (w6.heap.size) ([.slice p1b us2.length n1b, .slice p2b ds2.length n2b]) := hW6_0.box
    have K_w6_7 : Below w6.heap.size w6 W6_0 := below_thru K_w6_6 hN
    clear K_w6_6
    have hB7 : Below w.heap.size w W6_0 := below_thru hB6 hN
    have hs7 := hB7.size
    have x_d7 : Box W6_0 (w.heap.size) ([v1, v2]) := Box.below x_d6 hN
    have x_c7 : Box W6_0 (w.heap.size + 2) (C) := Box.below x_c6 hN
    have x_f7 : Box W6_0 (w.heap.size + 3) (F) := Box.below x_f6 hN
    clear hB6 hs6 x_d6 x_c6 x_f6
    clear hN hW6_0
    rcases HQ2.out with e | e | e | e
    ·
      have CA1 := CA.out e; have CF1 := CF.out e; have PC3 := PC2.out e; subst e; clear CA CF PC2 CN HQ2
      have ca := (x_f7).c 0 _ v0
      have za := (x_f7).lt
      go_upto_region 17 with (first | (refine wpList_load_rangew rfl _ _ rfl (Box.rangeMid x_f7 39 (Q) ([]) DC.out) rfl Try.underlying39 rfl SQ.out ?_) | (refine wpList_load_box9 rfl _ _ rfl x_c7 rfl Try.underlying39 rfl SC.out ?_))
      clear ca za
      go_wp2_with (first
        | (refine wpList_load_box9 rfl _ _ rfl x_b7 rfl Try.underlying25 rfl (size_id12 _ _) ?_)
        | (refine wpList_load_box9 rfl _ _ rfl x_c7 rfl Try.underlying39 rfl SC.out ?_))
      refine (PC3 _ _ (Ib.out.below K_w6_7)).mono ?_
      rintro e w8 ⟨x1g, x2g, rfl, o1g, o2g, hb⟩
      have Ig : Hid (IsD w8 (.agg #[x1g, x2g]) us2 ds2) := Lib.hid ⟨_, _, rfl, IsR.own o1g rfl rfl, IsR.own o2g rfl rfl⟩
      obtain ⟨p1g, n1g, rfl⟩ := own_slR o1g; obtain ⟨p2g, n2g, rfl⟩ := own_slR o2g
      have K_w6_8 : Below w6.heap.size w6 w8 := below_thru K_w6_7 hb
      clear K_w6_7
      have hB8 : Below w.heap.size w w8 := below_thru hB7 hb
      have hs8 := hB8.size
      have x_d8 : Box w8 (w.heap.size) ([v1, v2]) := Box.below x_d7 hb
      have x_c8 : Box w8 (w.heap.size + 2) (C) := Box.below x_c7 hb
      have x_f8 : Box w8 (w.heap.size + 3) (F) := Box.below x_f7 hb
      have x_b8 : Box w8 (w6.heap.size) ([.slice p1b us2.length n1b, .slice p2b ds2.length n2b]) := Box.below x_b7 hb
      clear hB7 hs7 x_d7 x_c7 x_f7 x_b7
      clear hb
      clear o1g o2g
      have K_w8_8 : Below w8.heap.size w8 w8 := Below.refl _ _
      have d_g_d := (x_d8).lt
      have d_g_c := (x_c8).lt
      have d_g_f := (x_f8).lt
      have d_g_b := (x_b8).lt
      have d_g_0 := hs8
      go_upto_region 18 with (refine wpList_store_box (cs := [.slice p1g us2.length n1g, .slice p2g ds2.length n2g]) rfl _ _ _ rfl (Box.newc (l := id0) rfl rfl) rfl rfl (size_id12 _ _) rfl (one_id12 _ _ _ _ _ _) ?_; intro W8_0 hW8_0)
      have hN : Below w8.heap.size w8 W8_0 := (hW8_0.below _ _ (by omega) ((Below.refl _ w8).alloc (Nat.le_refl _) _))
      have x_g9 : Box W8_0 (w8.heap.size) ([.slice p1g us2.length n1g, .slice p2g ds2.length n2g]) := hW8_0.box
      have K_w6_9 : Below w6.heap.size w6 W8_0 := below_thru K_w6_8 hN
      have K_w8_9 : Below w8.heap.size w8 W8_0 := below_thru K_w8_8 hN
      clear K_w6_8 K_w8_8
      have hB9 : Below w.heap.size w W8_0 := below_thru hB8 hN
      have hs9 := hB9.size
      have x_d9 : Box W8_0 (w.heap.size) ([v1, v2]) := Box.below x_d8 hN
      have x_c9 : Box W8_0 (w.heap.size + 2) (C) := Box.below x_c8 hN
      have x_f9 : Box W8_0 (w.heap.size + 3) (F) := Box.below x_f8 hN
      have x_b9 : Box W8_0 (w6.heap.size) ([.slice p1b us2.length n1b, .slice p2b ds2.length n2b]) := Box.below x_b8 hN
      clear hB8 hs8 x_d8 x_c8 x_f8 x_b8
      clear hN hW8_0
      refine wp_region_held_drew (S := fun W => Box W (w.heap.size) ([v1, v2]) ∧ Box W (w.heap.size + 2) (C) ∧ Box W (w.heap.size + 3) (F) ∧ Box W (w6.heap.size) ([.slice p1b us2.length n1b, .slice p2b ds2.length n2b]) ∧ Box W (w8.heap.size) ([.slice p1g us2.length n1g, .slice p2g ds2.length n2g])) (by kernel_rfl) (And.intro (x_d9).drew (And.intro (x_c9).drew (And.intro (x_f9).drew (And.intro (x_b9).drew (x_g9).drew)))) (fun _ => ?_)
      refine F_drew (F := fun W => wpAnyH _ _ _ _ _ _ _ _ W) ?_
      intro Wr0 hbr0
      clear hs9
      have x_d_r0 : Box Wr0 (w.heap.size) ([v1, v2]) := Box.below x_d9 hbr0
      have x_c_r0 : Box Wr0 (w.heap.size + 2) (C) := Box.below x_c9 hbr0
      have x_f_r0 : Box Wr0 (w.heap.size + 3) (F) := Box.below x_f9 hbr0
      have x_b_r0 : Box Wr0 (w6.heap.size) ([.slice p1b us2.length n1b, .slice p2b ds2.length n2b]) := Box.below x_b9 hbr0
      have x_g_r0 : Box Wr0 (w8.heap.size) ([.slice p1g us2.length n1g, .slice p2g ds2.length n2g]) := Box.below x_g9 hbr0
      have Br0 := below_thru hB9 hbr0
      have K_w6_r0 := below_thru K_w6_9 hbr0
      have K_w8_r0 := below_thru K_w8_9 hbr0
      clear x_d9 x_c9 x_f9 x_b9 x_g9 hB9 K_w6_9 K_w8_9 hbr0
      refine takeH 0 122 (v := .agg ([.slice p1b us2.length n1b, .slice p2b ds2.length n2b]).toArray) rfl (by rfl) (by kernel_rfl) (by kernel_rfl) (by kernel_rfl) (fun _ _ _ h => h) (yieldsIf_load_mid (by rfl) _ _ rfl _ _ rfl ([.slice p1b us2.length n1b, .slice p2b ds2.length n2b]) _ (fun wq hq => Box.range (hq.2.2.2.1)) Try.underlying25 rfl (size_id12 _ _)) ((And.intro x_d_r0 (And.intro x_c_r0 (And.intro x_f_r0 (And.intro x_b_r0 x_g_r0))))) ?_
      try simp only [Act.put, List.setIfInBounds_toArray, List.set_cons_zero, List.set_cons_succ]
      refine takeH 1 123 (v := .agg (C).toArray) rfl (by rfl) (by kernel_rfl) (by kernel_rfl) (by kernel_rfl) (fun _ _ _ h => h) (yieldsIf_load_mid (by rfl) _ _ rfl _ _ rfl (C) _ (fun wq hq => Box.range (hq.2.1)) Try.underlying39 rfl SC.out) ((And.intro x_d_r0 (And.intro x_c_r0 (And.intro x_f_r0 (And.intro x_b_r0 x_g_r0))))) ?_
      try simp only [Act.put, List.setIfInBounds_toArray, List.set_cons_zero, List.set_cons_succ]
      refine wpAnyH_ready (rs := [2]) (by kernel_rfl) (by simp) (AllReadyH.cons rfl (fun K hK => ?_) AllReadyH.nil)
      go_simp
      refine (CQ _).mono ?_
      rintro e Wr1 ⟨rfl, hbr1⟩
      have x_d_r1 : Box Wr1 (w.heap.size) ([v1, v2]) := Box.below x_d_r0 hbr1
      have x_c_r1 : Box Wr1 (w.heap.size + 2) (C) := Box.below x_c_r0 hbr1
      have x_f_r1 : Box Wr1 (w.heap.size + 3) (F) := Box.below x_f_r0 hbr1
      have x_b_r1 : Box Wr1 (w6.heap.size) ([.slice p1b us2.length n1b, .slice p2b ds2.length n2b]) := Box.below x_b_r0 hbr1
      have x_g_r1 : Box Wr1 (w8.heap.size) ([.slice p1g us2.length n1g, .slice p2g ds2.length n2g]) := Box.below x_g_r0 hbr1
      have Br1 := below_thru Br0 hbr1
      have K_w6_r1 := below_thru K_w6_r0 hbr1
      have K_w8_r1 := below_thru K_w8_r0 hbr1
      clear x_d_r0 x_c_r0 x_f_r0 x_b_r0 x_g_r0 Br0 K_w6_r0 K_w8_r0 hbr1
      refine hK.out _ _ (And.intro x_d_r1 (And.intro x_c_r1 (And.intro x_f_r1 (And.intro x_b_r1 x_g_r1)))) (fun _ => ?_); clear hK K
      refine wpAnyH_ready (rs := [3]) (by kernel_rfl) (by simp) (AllReadyH.cons rfl (fun K hK => ?_) AllReadyH.nil)
      go_simp
      refine (CA1 _ _ (Ib.out.below K_w6_r1)).mono ?_
      rintro e Wr2 ⟨rfl, hbr2⟩
      have x_d_r2 : Box Wr2 (w.heap.size) ([v1, v2]) := Box.below x_d_r1 hbr2
      have x_c_r2 : Box Wr2 (w.heap.size + 2) (C) := Box.below x_c_r1 hbr2
      have x_f_r2 : Box Wr2 (w.heap.size + 3) (F) := Box.below x_f_r1 hbr2
      have x_b_r2 : Box Wr2 (w6.heap.size) ([.slice p1b us2.length n1b, .slice p2b ds2.length n2b]) := Box.below x_b_r1 hbr2
      have x_g_r2 : Box Wr2 (w8.heap.size) ([.slice p1g us2.length n1g, .slice p2g ds2.length n2g]) := Box.below x_g_r1 hbr2
      have Br2 := below_thru Br1 hbr2
      have K_w6_r2 := below_thru K_w6_r1 hbr2
      have K_w8_r2 := below_thru K_w8_r1 hbr2
      clear x_d_r1 x_c_r1 x_f_r1 x_b_r1 x_g_r1 Br1 K_w6_r1 K_w8_r1 hbr2
      refine hK.out _ _ (And.intro x_d_r2 (And.intro x_c_r2 (And.intro x_f_r2 (And.intro x_b_r2 x_g_r2)))) (fun _ => ?_); clear hK K
      refine takeH 4 126 (v := ?vr4_3) rfl (by rfl) (by kernel_rfl) (by kernel_rfl) (by kernel_rfl) (fun _ _ _ h => h) (Or.inl ⟨by rfl, ?_⟩) ((And.intro x_d_r2 (And.intro x_c_r2 (And.intro x_f_r2 (And.intro x_b_r2 x_g_r2))))) ?_
      rotate_left
      · intro wq hSq
        go_simp
        exact rfl
      try simp only [Act.put, List.setIfInBounds_toArray, List.set_cons_zero, List.set_cons_succ]
      refine takeH 8 130 (v := ?vr8_4) rfl (by rfl) (by kernel_rfl) (by kernel_rfl) (by kernel_rfl) (fun _ _ _ h => h) (Or.inl ⟨by rfl, ?_⟩) ((And.intro x_d_r2 (And.intro x_c_r2 (And.intro x_f_r2 (And.intro x_b_r2 x_g_r2))))) ?_
      rotate_left
      · intro wq hSq
        go_simp
        exact rfl
      try simp only [Act.put, List.setIfInBounds_toArray, List.set_cons_zero, List.set_cons_succ]
      refine takeH 5 127 (v := .agg ([.slice p1b us2.length n1b, .slice p2b ds2.length n2b]).toArray) rfl (by rfl) (by kernel_rfl) (by kernel_rfl) (by kernel_rfl) (fun _ _ _ h => h) (yieldsIf_load_mid (by rfl) _ _ rfl _ _ rfl ([.slice p1b us2.length n1b, .slice p2b ds2.length n2b]) _ (fun wq hq => Box.range (hq.2.2.2.1)) Try.underlying25 rfl (size_id12 _ _)) ((And.intro x_d_r2 (And.intro x_c_r2 (And.intro x_f_r2 (And.intro x_b_r2 x_g_r2))))) ?_
      try simp only [Act.put, List.setIfInBounds_toArray, List.set_cons_zero, List.set_cons_succ]
      refine takeH 6 128 (v := .agg (F).toArray) rfl (by rfl) (by kernel_rfl) (by kernel_rfl) (by kernel_rfl) (fun _ _ _ h => h) (yieldsIf_load_mid (by rfl) _ _ rfl _ _ rfl (F) _ (fun wq hq => Box.range (hq.2.2.1)) Try.underlying47 rfl SF.out) ((And.intro x_d_r2 (And.intro x_c_r2 (And.intro x_f_r2 (And.intro x_b_r2 x_g_r2))))) ?_
      try simp only [Act.put, List.setIfInBounds_toArray, List.set_cons_zero, List.set_cons_succ]
      refine wpAnyH_ready (rs := [7]) (by kernel_rfl) (by simp) (AllReadyH.cons rfl (fun K hK => ?_) AllReadyH.nil)
      go_simp
      refine (CF1 _ _ (Ib.out.below K_w6_r2)).mono ?_
      rintro e Wr5 ⟨rfl, hbr5⟩
      have x_d_r5 : Box Wr5 (w.heap.size) ([v1, v2]) := Box.below x_d_r2 hbr5
      have x_c_r5 : Box Wr5 (w.heap.size + 2) (C) := Box.below x_c_r2 hbr5
      have x_f_r5 : Box Wr5 (w.heap.size + 3) (F) := Box.below x_f_r2 hbr5
      have x_b_r5 : Box Wr5 (w6.heap.size) ([.slice p1b us2.length n1b, .slice p2b ds2.length n2b]) := Box.below x_b_r2 hbr5
      have x_g_r5 : Box Wr5 (w8.heap.size) ([.slice p1g us2.length n1g, .slice p2g ds2.length n2g]) := Box.below x_g_r2 hbr5
      have Br5 := below_thru Br2 hbr5
      have K_w6_r5 := below_thru K_w6_r2 hbr5
      have K_w8_r5 := below_thru K_w8_r2 hbr5
      clear x_d_r2 x_c_r2 x_f_r2 x_b_r2 x_g_r2 Br2 K_w6_r2 K_w8_r2 hbr5
      refine hK.out _ _ (And.intro x_d_r5 (And.intro x_c_r5 (And.intro x_f_r5 (And.intro x_b_r5 x_g_r5)))) (fun _ => ?_); clear hK K
      refine takeH 9 131 (v := ?vr9_6) rfl (by rfl) (by kernel_rfl) (by kernel_rfl) (by kernel_rfl) (fun _ _ _ h => h) (Or.inl ⟨by rfl, ?_⟩) ((And.intro x_d_r5 (And.intro x_c_r5 (And.intro x_f_r5 (And.intro x_b_r5 x_g_r5))))) ?_
      rotate_left
      · intro wq hSq
        go_simp
        exact rfl
      try simp only [Act.put, List.setIfInBounds_toArray, List.set_cons_zero, List.set_cons_succ]
      refine takeH 10 132 (v := ?vr10_7) rfl (by rfl) (by kernel_rfl) (by kernel_rfl) (by kernel_rfl) (fun _ _ _ h => h) (Or.inl ⟨by rfl, ?_⟩) ((And.intro x_d_r5 (And.intro x_c_r5 (And.intro x_f_r5 (And.intro x_b_r5 x_g_r5))))) ?_
      rotate_left
      · intro wq hSq
        go_simp
        exact rfl
      try simp only [Act.put, List.setIfInBounds_toArray, List.set_cons_zero, List.set_cons_succ]
      refine takeH 11 133 (v := ?vr11_8) rfl (by rfl) (by kernel_rfl) (by kernel_rfl) (by kernel_rfl) (fun _ _ _ h => h) (Or.inl ⟨by rfl, ?_⟩) ((And.intro x_d_r5 (And.intro x_c_r5 (And.intro x_f_r5 (And.intro x_b_r5 x_g_r5))))) ?_
      rotate_left
      · intro wq hSq
        go_simp
        exact rfl
      try simp only [Act.put, List.setIfInBounds_toArray, List.set_cons_zero, List.set_cons_succ]
      refine takeH 12 134 (v := ?vr12_9) rfl (by rfl) (by kernel_rfl) (by kernel_rfl) (by kernel_rfl) (fun _ _ _ h => h) (Or.inl ⟨by rfl, ?_⟩) ((And.intro x_d_r5 (And.intro x_c_r5 (And.intro x_f_r5 (And.intro x_b_r5 x_g_r5))))) ?_
      rotate_left
      · intro wq hSq
        go_simp
        exact rfl
      try simp only [Act.put, List.setIfInBounds_toArray, List.set_cons_zero, List.set_cons_succ]
      refine takeH 13 135 (v := ?vr13_10) rfl (by rfl) (by kernel_rfl) (by kernel_rfl) (by kernel_rfl) (fun _ _ _ h => h) (Or.inl ⟨by rfl, ?_⟩) ((And.intro x_d_r5 (And.intro x_c_r5 (And.intro x_f_r5 (And.intro x_b_r5 x_g_r5))))) ?_
      rotate_left
      · intro wq hSq
        go_simp
        exact rfl
      try simp only [Act.put, List.setIfInBounds_toArray, List.set_cons_zero, List.set_cons_succ]
      refine takeH 14 136 (v := ?vr14_11) rfl (by rfl) (by kernel_rfl) (by kernel_rfl) (by kernel_rfl) (fun _ _ _ h => h) (Or.inl ⟨by rfl, ?_⟩) ((And.intro x_d_r5 (And.intro x_c_r5 (And.intro x_f_r5 (And.intro x_b_r5 x_g_r5))))) ?_
      rotate_left
      · intro wq hSq
        go_simp
        exact rfl
      try simp only [Act.put, List.setIfInBounds_toArray, List.set_cons_zero, List.set_cons_succ]
      refine takeH 15 137 (v := ?vr15_12) rfl (by rfl) (by kernel_rfl) (by kernel_rfl) (by kernel_rfl) (fun _ _ _ h => h) (Or.inl ⟨by rfl, ?_⟩) ((And.intro x_d_r5 (And.intro x_c_r5 (And.intro x_f_r5 (And.intro x_b_r5 x_g_r5))))) ?_
      rotate_left
      · intro wq hSq
        go_simp
        exact rfl
      try simp only [Act.put, List.setIfInBounds_toArray, List.set_cons_zero, List.set_cons_succ]
      refine takeH 16 138 (v := ?vr16_13) rfl (by rfl) (by kernel_rfl) (by kernel_rfl) (by kernel_rfl) (fun _ _ _ h => h) (Or.inl ⟨by rfl, ?_⟩) ((And.intro x_d_r5 (And.intro x_c_r5 (And.intro x_f_r5 (And.intro x_b_r5 x_g_r5))))) ?_
      rotate_left
      · intro wq hSq
        go_simp
        exact rfl
      try simp only [Act.put, List.setIfInBounds_toArray, List.set_cons_zero, List.set_cons_succ]
      refine takeH 17 139 (v := ?vr17_14) rfl (by rfl) (by kernel_rfl) (by kernel_rfl) (by kernel_rfl) (fun _ _ _ h => h) (Or.inl ⟨by rfl, ?_⟩) ((And.intro x_d_r5 (And.intro x_c_r5 (And.intro x_f_r5 (And.intro x_b_r5 x_g_r5))))) ?_
      rotate_left
      · intro wq hSq
        go_simp
        exact rfl
      try simp only [Act.put, List.setIfInBounds_toArray, List.set_cons_zero, List.set_cons_succ]
      refine takeH 18 140 (v := ?vr18_15) rfl (by rfl) (by kernel_rfl) (by kernel_rfl) (by kernel_rfl) (fun _ _ _ h => h) (Or.inl ⟨by rfl, ?_⟩) ((And.intro x_d_r5 (And.intro x_c_r5 (And.intro x_f_r5 (And.intro x_b_r5 x_g_r5))))) ?_
      rotate_left
      · intro wq hSq
        go_simp
        exact rfl
      try simp only [Act.put, List.setIfInBounds_toArray, List.set_cons_zero, List.set_cons_succ]
      refine takeH 19 141 (v := .agg ([.slice p1g us2.length n1g, .slice p2g ds2.length n2g]).toArray) rfl (by rfl) (by kernel_rfl) (by kernel_rfl) (by kernel_rfl) (fun _ _ _ h => h) (yieldsIf_load_mid (by rfl) _ _ rfl _ _ rfl ([.slice p1g us2.length n1g, .slice p2g ds2.length n2g]) _ (fun wq hq => Box.range (hq.2.2.2.2)) Try.underlying25 rfl (size_id12 _ _)) ((And.intro x_d_r5 (And.intro x_c_r5 (And.intro x_f_r5 (And.intro x_b_r5 x_g_r5))))) ?_
      try simp only [Act.put, List.setIfInBounds_toArray, List.set_cons_zero, List.set_cons_succ]
      refine takeH 20 142 (v := .agg ([.slice p1b us2.length n1b, .slice p2b ds2.length n2b]).toArray) rfl (by rfl) (by kernel_rfl) (by kernel_rfl) (by kernel_rfl) (fun _ _ _ h => h) (yieldsIf_load_mid (by rfl) _ _ rfl _ _ rfl ([.slice p1b us2.length n1b, .slice p2b ds2.length n2b]) _ (fun wq hq => Box.range (hq.2.2.2.1)) Try.underlying25 rfl (size_id12 _ _)) ((And.intro x_d_r5 (And.intro x_c_r5 (And.intro x_f_r5 (And.intro x_b_r5 x_g_r5))))) ?_
      try simp only [Act.put, List.setIfInBounds_toArray, List.set_cons_zero, List.set_cons_succ]
      refine wpAnyH_ready (rs := [21]) (by kernel_rfl) (by simp) (AllReadyH.cons rfl (fun K hK => ?_) AllReadyH.nil)
      go_simp
      refine (SM _ _ _ _ _ (Ig.out.below K_w8_r5) (Ib.out.below K_w6_r5)).mono ?_
      rintro e Wr16 ⟨rfl, hbr16⟩
      have x_d_r16 : Box Wr16 (w.heap.size) ([v1, v2]) := Box.below x_d_r5 hbr16
      have x_c_r16 : Box Wr16 (w.heap.size + 2) (C) := Box.below x_c_r5 hbr16
      have x_f_r16 : Box Wr16 (w.heap.size + 3) (F) := Box.below x_f_r5 hbr16
      have x_b_r16 : Box Wr16 (w6.heap.size) ([.slice p1b us2.length n1b, .slice p2b ds2.length n2b]) := Box.below x_b_r5 hbr16
      have x_g_r16 : Box Wr16 (w8.heap.size) ([.slice p1g us2.length n1g, .slice p2g ds2.length n2g]) := Box.below x_g_r5 hbr16
      have Br16 := below_thru Br5 hbr16
      have K_w6_r16 := below_thru K_w6_r5 hbr16
      have K_w8_r16 := below_thru K_w8_r5 hbr16
      clear x_d_r5 x_c_r5 x_f_r5 x_b_r5 x_g_r5 Br5 K_w6_r5 K_w8_r5 hbr16
      refine hK.out _ _ (And.intro x_d_r16 (And.intro x_c_r16 (And.intro x_f_r16 (And.intro x_b_r16 x_g_r16)))) (fun _ => ?_); clear hK K
      refine takeH 22 144 (v := ?vr22_17) rfl (by rfl) (by kernel_rfl) (by kernel_rfl) (by kernel_rfl) (fun _ _ _ h => h) (Or.inl ⟨by rfl, ?_⟩) ((And.intro x_d_r16 (And.intro x_c_r16 (And.intro x_f_r16 (And.intro x_b_r16 x_g_r16))))) ?_
      rotate_left
      · intro wq hSq
        go_simp
        exact rfl
      try simp only [Act.put, List.setIfInBounds_toArray, List.set_cons_zero, List.set_cons_succ]
      refine takeH 23 145 (v := ?vr23_18) rfl (by rfl) (by kernel_rfl) (by kernel_rfl) (by kernel_rfl) (fun _ _ _ h => h) (Or.inl ⟨by rfl, ?_⟩) ((And.intro x_d_r16 (And.intro x_c_r16 (And.intro x_f_r16 (And.intro x_b_r16 x_g_r16))))) ?_
      rotate_left
      · intro wq hSq
        go_simp
        exact rfl
      try simp only [Act.put, List.setIfInBounds_toArray, List.set_cons_zero, List.set_cons_succ]
      refine wpAnyH_ready (rs := [24]) (by kernel_rfl) (by simp) (AllReadyH.cons rfl (fun K hK => ?_) AllReadyH.nil)
      go_simp
      refine (AL _).mono ?_
      rintro e Wr19 ⟨rfl, hbr19⟩
      have x_d_r19 : Box Wr19 (w.heap.size) ([v1, v2]) := Box.below x_d_r16 hbr19
      have x_c_r19 : Box Wr19 (w.heap.size + 2) (C) := Box.below x_c_r16 hbr19
      have x_f_r19 : Box Wr19 (w.heap.size + 3) (F) := Box.below x_f_r16 hbr19
      have x_b_r19 : Box Wr19 (w6.heap.size) ([.slice p1b us2.length n1b, .slice p2b ds2.length n2b]) := Box.below x_b_r16 hbr19
      have x_g_r19 : Box Wr19 (w8.heap.size) ([.slice p1g us2.length n1g, .slice p2g ds2.length n2g]) := Box.below x_g_r16 hbr19
      have Br19 := below_thru Br16 hbr19
      have K_w6_r19 := below_thru K_w6_r16 hbr19
      have K_w8_r19 := below_thru K_w8_r16 hbr19
      clear x_d_r16 x_c_r16 x_f_r16 x_b_r16 x_g_r16 Br16 K_w6_r16 K_w8_r16 hbr19
      refine hK.out _ _ (And.intro x_d_r19 (And.intro x_c_r19 (And.intro x_f_r19 (And.intro x_b_r19 x_g_r19)))) (fun _ => ?_); clear hK K
      refine takeH 25 147 (v := ?vr25_20) rfl (by rfl) (by kernel_rfl) (by kernel_rfl) (by kernel_rfl) (fun _ _ _ h => h) (Or.inl ⟨by rfl, ?_⟩) ((And.intro x_d_r19 (And.intro x_c_r19 (And.intro x_f_r19 (And.intro x_b_r19 x_g_r19))))) ?_
      rotate_left
      · intro wq hSq
        go_simp
        exact rfl
      try simp only [Act.put, List.setIfInBounds_toArray, List.set_cons_zero, List.set_cons_succ]
      refine takeH 26 8 (v := ?vr26_21) rfl (by rfl) (by kernel_rfl) (by kernel_rfl) (by kernel_rfl) (fun _ _ _ h => h) (Or.inl ⟨by rfl, ?_⟩) ((And.intro x_d_r19 (And.intro x_c_r19 (And.intro x_f_r19 (And.intro x_b_r19 x_g_r19))))) ?_
      rotate_left
      · intro wq hSq
        go_simp
        exact rfl
      try simp only [Act.put, List.setIfInBounds_toArray, List.set_cons_zero, List.set_cons_succ]
      refine wpAnyH_done (by kernel_rfl) ?_ _
      go_wp2_with fail
      go_returns
      exact ⟨rfl, Br19⟩
    ·
      have CN1 := CN.out (by rw [e]; decide); subst e; clear CA CF PC2 CN HQ2
      clear K_w6_7
      clear x_b7
      clear Ib
      go_upto_region 19 with fail
      refine wp_region_held_drew (S := fun W => Box W (w.heap.size) ([v1, v2]) ∧ Box W (w.heap.size + 2) (C) ∧ Box W (w.heap.size + 3) (F)) (by kernel_rfl) (And.intro (x_d7).drew (And.intro (x_c7).drew (x_f7).drew)) (fun _ => ?_)
      refine F_drew (F := fun W => wpAnyH _ _ _ _ _ _ _ _ W) ?_
      intro Wre0 hbre0
      clear hs7
      have x_d_re0 : Box Wre0 (w.heap.size) ([v1, v2]) := Box.below x_d7 hbre0
      have x_c_re0 : Box Wre0 (w.heap.size + 2) (C) := Box.below x_c7 hbre0
      have x_f_re0 : Box Wre0 (w.heap.size + 3) (F) := Box.below x_f7 hbre0
      have Bre0 := below_thru hB7 hbre0
      clear x_d7 x_c7 x_f7 hB7 hbre0
      refine takeH 0 148 (v := .agg ([v1, v2]).toArray) rfl (by rfl) (by kernel_rfl) (by kernel_rfl) (by kernel_rfl) (fun _ _ _ h => h) (yieldsIf_load_mid (by rfl) _ _ rfl _ _ rfl ([v1, v2]) _ (fun wq hq => Box.range (hq.1)) Try.underlying25 rfl SD.out) ((And.intro x_d_re0 (And.intro x_c_re0 x_f_re0))) ?_
      try simp only [Act.put, List.setIfInBounds_toArray, List.set_cons_zero, List.set_cons_succ]
      refine takeH 1 149 (v := .agg (C).toArray) rfl (by rfl) (by kernel_rfl) (by kernel_rfl) (by kernel_rfl) (fun _ _ _ h => h) (yieldsIf_load_mid (by rfl) _ _ rfl _ _ rfl (C) _ (fun wq hq => Box.range (hq.2.1)) Try.underlying39 rfl SC.out) ((And.intro x_d_re0 (And.intro x_c_re0 x_f_re0))) ?_
      try simp only [Act.put, List.setIfInBounds_toArray, List.set_cons_zero, List.set_cons_succ]
      refine wpAnyH_ready (rs := [2]) (by kernel_rfl) (by simp) (AllReadyH.cons rfl (fun K hK => ?_) AllReadyH.nil)
      go_simp
      refine (CQ _).mono ?_
      rintro e Wre1 ⟨rfl, hbre1⟩
      have x_d_re1 : Box Wre1 (w.heap.size) ([v1, v2]) := Box.below x_d_re0 hbre1
      have x_c_re1 : Box Wre1 (w.heap.size + 2) (C) := Box.below x_c_re0 hbre1
      have x_f_re1 : Box Wre1 (w.heap.size + 3) (F) := Box.below x_f_re0 hbre1
      have Bre1 := below_thru Bre0 hbre1
      clear x_d_re0 x_c_re0 x_f_re0 Bre0 hbre1
      refine hK.out _ _ (And.intro x_d_re1 (And.intro x_c_re1 x_f_re1)) (fun _ => ?_); clear hK K
      refine wpAnyH_ready (rs := [3]) (by kernel_rfl) (by simp) (AllReadyH.cons rfl (fun K hK => ?_) AllReadyH.nil)
      go_simp
      refine (CN1 _ _ (HD.out.below Bre1)).mono ?_
      rintro e Wre2 ⟨rfl, hbre2⟩
      have x_d_re2 : Box Wre2 (w.heap.size) ([v1, v2]) := Box.below x_d_re1 hbre2
      have x_c_re2 : Box Wre2 (w.heap.size + 2) (C) := Box.below x_c_re1 hbre2
      have x_f_re2 : Box Wre2 (w.heap.size + 3) (F) := Box.below x_f_re1 hbre2
      have Bre2 := below_thru Bre1 hbre2
      clear x_d_re1 x_c_re1 x_f_re1 Bre1 hbre2
      refine hK.out _ _ (And.intro x_d_re2 (And.intro x_c_re2 x_f_re2)) (fun _ => ?_); clear hK K
      refine takeH 4 152 (v := ?vre4_3) rfl (by rfl) (by kernel_rfl) (by kernel_rfl) (by kernel_rfl) (fun _ _ _ h => h) (Or.inl ⟨by rfl, ?_⟩) ((And.intro x_d_re2 (And.intro x_c_re2 x_f_re2))) ?_
      rotate_left
      · intro wq hSq
        go_simp
        exact rfl
      try simp only [Act.put, List.setIfInBounds_toArray, List.set_cons_zero, List.set_cons_succ]
      refine takeH 5 153 (v := ?vre5_4) rfl (by rfl) (by kernel_rfl) (by kernel_rfl) (by kernel_rfl) (fun _ _ _ h => h) (Or.inl ⟨by rfl, ?_⟩) ((And.intro x_d_re2 (And.intro x_c_re2 x_f_re2))) ?_
      rotate_left
      · intro wq hSq
        go_simp
        exact rfl
      try simp only [Act.put, List.setIfInBounds_toArray, List.set_cons_zero, List.set_cons_succ]
      refine takeH 6 154 (v := ?vre6_5) rfl (by rfl) (by kernel_rfl) (by kernel_rfl) (by kernel_rfl) (fun _ _ _ h => h) (Or.inl ⟨by rfl, ?_⟩) ((And.intro x_d_re2 (And.intro x_c_re2 x_f_re2))) ?_
      rotate_left
      · intro wq hSq
        go_simp
        exact rfl
      try simp only [Act.put, List.setIfInBounds_toArray, List.set_cons_zero, List.set_cons_succ]
      refine takeH 7 155 (v := ?vre7_6) rfl (by rfl) (by kernel_rfl) (by kernel_rfl) (by kernel_rfl) (fun _ _ _ h => h) (Or.inl ⟨by rfl, ?_⟩) ((And.intro x_d_re2 (And.intro x_c_re2 x_f_re2))) ?_
      rotate_left
      · intro wq hSq
        go_simp
        exact rfl
      try simp only [Act.put, List.setIfInBounds_toArray, List.set_cons_zero, List.set_cons_succ]
      refine takeH 8 156 (v := ?vre8_7) rfl (by rfl) (by kernel_rfl) (by kernel_rfl) (by kernel_rfl) (fun _ _ _ h => h) (Or.inl ⟨by rfl, ?_⟩) ((And.intro x_d_re2 (And.intro x_c_re2 x_f_re2))) ?_
      rotate_left
      · intro wq hSq
        go_simp
        exact rfl
      try simp only [Act.put, List.setIfInBounds_toArray, List.set_cons_zero, List.set_cons_succ]
      refine takeH 9 157 (v := undef) rfl (by rfl) (by kernel_rfl) (by kernel_rfl) (by kernel_rfl) (fun _ _ _ h => h) (Or.inr ⟨by rfl, rfl⟩) ((And.intro x_d_re2 (And.intro x_c_re2 x_f_re2))) ?_
      try simp only [Act.put, List.setIfInBounds_toArray, List.set_cons_zero, List.set_cons_succ]
      refine takeH 10 158 (v := undef) rfl (by rfl) (by kernel_rfl) (by kernel_rfl) (by kernel_rfl) (fun _ _ _ h => h) (Or.inr ⟨by rfl, rfl⟩) ((And.intro x_d_re2 (And.intro x_c_re2 x_f_re2))) ?_
      try simp only [Act.put, List.setIfInBounds_toArray, List.set_cons_zero, List.set_cons_succ]
      refine takeH 11 159 (v := ?vre11_8) rfl (by rfl) (by kernel_rfl) (by kernel_rfl) (by kernel_rfl) (fun _ _ _ h => h) (Or.inl ⟨by rfl, ?_⟩) ((And.intro x_d_re2 (And.intro x_c_re2 x_f_re2))) ?_
      rotate_left
      · intro wq hSq
        go_simp
        exact rfl
      try simp only [Act.put, List.setIfInBounds_toArray, List.set_cons_zero, List.set_cons_succ]
      refine takeH 12 160 (v := ?vre12_9) rfl (by rfl) (by kernel_rfl) (by kernel_rfl) (by kernel_rfl) (fun _ _ _ h => h) (Or.inl ⟨by rfl, ?_⟩) ((And.intro x_d_re2 (And.intro x_c_re2 x_f_re2))) ?_
      rotate_left
      · intro wq hSq
        go_simp
        exact rfl
      try simp only [Act.put, List.setIfInBounds_toArray, List.set_cons_zero, List.set_cons_succ]
      refine takeH 13 161 (v := undef) rfl (by rfl) (by kernel_rfl) (by kernel_rfl) (by kernel_rfl) (fun _ _ _ h => h) (Or.inr ⟨by rfl, rfl⟩) ((And.intro x_d_re2 (And.intro x_c_re2 x_f_re2))) ?_
      try simp only [Act.put, List.setIfInBounds_toArray, List.set_cons_zero, List.set_cons_succ]
      refine takeH 14 162 (v := undef) rfl (by rfl) (by kernel_rfl) (by kernel_rfl) (by kernel_rfl) (fun _ _ _ h => h) (Or.inr ⟨by rfl, rfl⟩) ((And.intro x_d_re2 (And.intro x_c_re2 x_f_re2))) ?_
      try simp only [Act.put, List.setIfInBounds_toArray, List.set_cons_zero, List.set_cons_succ]
      refine takeH 15 163 (v := ?vre15_10) rfl (by rfl) (by kernel_rfl) (by kernel_rfl) (by kernel_rfl) (fun _ _ _ h => h) (Or.inl ⟨by rfl, ?_⟩) ((And.intro x_d_re2 (And.intro x_c_re2 x_f_re2))) ?_
      rotate_left
      · intro wq hSq
        go_simp
        exact rfl
      try simp only [Act.put, List.setIfInBounds_toArray, List.set_cons_zero, List.set_cons_succ]
      refine takeH 16 164 (v := ?vre16_11) rfl (by rfl) (by kernel_rfl) (by kernel_rfl) (by kernel_rfl) (fun _ _ _ h => h) (Or.inl ⟨by rfl, ?_⟩) ((And.intro x_d_re2 (And.intro x_c_re2 x_f_re2))) ?_
      rotate_left
      · intro wq hSq
        go_simp
        exact rfl
      try simp only [Act.put, List.setIfInBounds_toArray, List.set_cons_zero, List.set_cons_succ]
      refine takeH 17 165 (v := ?vre17_12) rfl (by rfl) (by kernel_rfl) (by kernel_rfl) (by kernel_rfl) (fun _ _ _ h => h) (Or.inl ⟨by rfl, ?_⟩) ((And.intro x_d_re2 (And.intro x_c_re2 x_f_re2))) ?_
      rotate_left
      · intro wq hSq
        go_simp
        exact rfl
      try simp only [Act.put, List.setIfInBounds_toArray, List.set_cons_zero, List.set_cons_succ]
      refine wpAnyH_ready (rs := [18]) (by kernel_rfl) (by simp) (AllReadyH.cons rfl (fun K hK => ?_) AllReadyH.nil)
      go_simp
      refine (AL _).mono ?_
      rintro e Wre13 ⟨rfl, hbre13⟩
      have x_d_re13 : Box Wre13 (w.heap.size) ([v1, v2]) := Box.below x_d_re2 hbre13
      have x_c_re13 : Box Wre13 (w.heap.size + 2) (C) := Box.below x_c_re2 hbre13
      have x_f_re13 : Box Wre13 (w.heap.size + 3) (F) := Box.below x_f_re2 hbre13
      have Bre13 := below_thru Bre2 hbre13
      clear x_d_re2 x_c_re2 x_f_re2 Bre2 hbre13
      refine hK.out _ _ (And.intro x_d_re13 (And.intro x_c_re13 x_f_re13)) (fun _ => ?_); clear hK K
      refine takeH 19 167 (v := ?vre19_14) rfl (by rfl) (by kernel_rfl) (by kernel_rfl) (by kernel_rfl) (fun _ _ _ h => h) (Or.inl ⟨by rfl, ?_⟩) ((And.intro x_d_re13 (And.intro x_c_re13 x_f_re13))) ?_
      rotate_left
      · intro wq hSq
        go_simp
        exact rfl
      try simp only [Act.put, List.setIfInBounds_toArray, List.set_cons_zero, List.set_cons_succ]
      refine takeH 20 8 (v := ?vre20_15) rfl (by rfl) (by kernel_rfl) (by kernel_rfl) (by kernel_rfl) (fun _ _ _ h => h) (Or.inl ⟨by rfl, ?_⟩) ((And.intro x_d_re13 (And.intro x_c_re13 x_f_re13))) ?_
      rotate_left
      · intro wq hSq
        go_simp
        exact rfl
      try simp only [Act.put, List.setIfInBounds_toArray, List.set_cons_zero, List.set_cons_succ]
      refine wpAnyH_done (by kernel_rfl) ?_ _
      go_wp2_with fail
      go_returns
      exact ⟨rfl, Bre13⟩
    ·
      have CN1 := CN.out (by rw [e]; decide); subst e; clear CA CF PC2 CN HQ2
      clear K_w6_7
      clear x_b7
      clear Ib
      go_upto_region 19 with fail
      refine wp_region_held_drew (S := fun W => Box W (w.heap.size) ([v1, v2]) ∧ Box W (w.heap.size + 2) (C) ∧ Box W (w.heap.size + 3) (F)) (by kernel_rfl) (And.intro (x_d7).drew (And.intro (x_c7).drew (x_f7).drew)) (fun _ => ?_)
      refine F_drew (F := fun W => wpAnyH _ _ _ _ _ _ _ _ W) ?_
      intro Wrf0 hbrf0
      clear hs7
      have x_d_rf0 : Box Wrf0 (w.heap.size) ([v1, v2]) := Box.below x_d7 hbrf0
      have x_c_rf0 : Box Wrf0 (w.heap.size + 2) (C) := Box.below x_c7 hbrf0
      have x_f_rf0 : Box Wrf0 (w.heap.size + 3) (F) := Box.below x_f7 hbrf0
      have Brf0 := below_thru hB7 hbrf0
      clear x_d7 x_c7 x_f7 hB7 hbrf0
      refine takeH 0 148 (v := .agg ([v1, v2]).toArray) rfl (by rfl) (by kernel_rfl) (by kernel_rfl) (by kernel_rfl) (fun _ _ _ h => h) (yieldsIf_load_mid (by rfl) _ _ rfl _ _ rfl ([v1, v2]) _ (fun wq hq => Box.range (hq.1)) Try.underlying25 rfl SD.out) ((And.intro x_d_rf0 (And.intro x_c_rf0 x_f_rf0))) ?_
      try simp only [Act.put, List.setIfInBounds_toArray, List.set_cons_zero, List.set_cons_succ]
      refine takeH 1 149 (v := .agg (C).toArray) rfl (by rfl) (by kernel_rfl) (by kernel_rfl) (by kernel_rfl) (fun _ _ _ h => h) (yieldsIf_load_mid (by rfl) _ _ rfl _ _ rfl (C) _ (fun wq hq => Box.range (hq.2.1)) Try.underlying39 rfl SC.out) ((And.intro x_d_rf0 (And.intro x_c_rf0 x_f_rf0))) ?_
      try simp only [Act.put, List.setIfInBounds_toArray, List.set_cons_zero, List.set_cons_succ]
      refine wpAnyH_ready (rs := [2]) (by kernel_rfl) (by simp) (AllReadyH.cons rfl (fun K hK => ?_) AllReadyH.nil)
      go_simp
      refine (CQ _).mono ?_
      rintro e Wrf1 ⟨rfl, hbrf1⟩
      have x_d_rf1 : Box Wrf1 (w.heap.size) ([v1, v2]) := Box.below x_d_rf0 hbrf1
      have x_c_rf1 : Box Wrf1 (w.heap.size + 2) (C) := Box.below x_c_rf0 hbrf1
      have x_f_rf1 : Box Wrf1 (w.heap.size + 3) (F) := Box.below x_f_rf0 hbrf1
      have Brf1 := below_thru Brf0 hbrf1
      clear x_d_rf0 x_c_rf0 x_f_rf0 Brf0 hbrf1
      refine hK.out _ _ (And.intro x_d_rf1 (And.intro x_c_rf1 x_f_rf1)) (fun _ => ?_); clear hK K
      refine wpAnyH_ready (rs := [3]) (by kernel_rfl) (by simp) (AllReadyH.cons rfl (fun K hK => ?_) AllReadyH.nil)
      go_simp
      refine (CN1 _ _ (HD.out.below Brf1)).mono ?_
      rintro e Wrf2 ⟨rfl, hbrf2⟩
      have x_d_rf2 : Box Wrf2 (w.heap.size) ([v1, v2]) := Box.below x_d_rf1 hbrf2
      have x_c_rf2 : Box Wrf2 (w.heap.size + 2) (C) := Box.below x_c_rf1 hbrf2
      have x_f_rf2 : Box Wrf2 (w.heap.size + 3) (F) := Box.below x_f_rf1 hbrf2
      have Brf2 := below_thru Brf1 hbrf2
      clear x_d_rf1 x_c_rf1 x_f_rf1 Brf1 hbrf2
      refine hK.out _ _ (And.intro x_d_rf2 (And.intro x_c_rf2 x_f_rf2)) (fun _ => ?_); clear hK K
      refine takeH 4 152 (v := ?vrf4_3) rfl (by rfl) (by kernel_rfl) (by kernel_rfl) (by kernel_rfl) (fun _ _ _ h => h) (Or.inl ⟨by rfl, ?_⟩) ((And.intro x_d_rf2 (And.intro x_c_rf2 x_f_rf2))) ?_
      rotate_left
      · intro wq hSq
        go_simp
        exact rfl
      try simp only [Act.put, List.setIfInBounds_toArray, List.set_cons_zero, List.set_cons_succ]
      refine takeH 5 153 (v := ?vrf5_4) rfl (by rfl) (by kernel_rfl) (by kernel_rfl) (by kernel_rfl) (fun _ _ _ h => h) (Or.inl ⟨by rfl, ?_⟩) ((And.intro x_d_rf2 (And.intro x_c_rf2 x_f_rf2))) ?_
      rotate_left
      · intro wq hSq
        go_simp
        exact rfl
      try simp only [Act.put, List.setIfInBounds_toArray, List.set_cons_zero, List.set_cons_succ]
      refine takeH 6 154 (v := ?vrf6_5) rfl (by rfl) (by kernel_rfl) (by kernel_rfl) (by kernel_rfl) (fun _ _ _ h => h) (Or.inl ⟨by rfl, ?_⟩) ((And.intro x_d_rf2 (And.intro x_c_rf2 x_f_rf2))) ?_
      rotate_left
      · intro wq hSq
        go_simp
        exact rfl
      try simp only [Act.put, List.setIfInBounds_toArray, List.set_cons_zero, List.set_cons_succ]
      refine takeH 7 155 (v := ?vrf7_6) rfl (by rfl) (by kernel_rfl) (by kernel_rfl) (by kernel_rfl) (fun _ _ _ h => h) (Or.inl ⟨by rfl, ?_⟩) ((And.intro x_d_rf2 (And.intro x_c_rf2 x_f_rf2))) ?_
      rotate_left
      · intro wq hSq
        go_simp
        exact rfl
      try simp only [Act.put, List.setIfInBounds_toArray, List.set_cons_zero, List.set_cons_succ]
      refine takeH 8 156 (v := ?vrf8_7) rfl (by rfl) (by kernel_rfl) (by kernel_rfl) (by kernel_rfl) (fun _ _ _ h => h) (Or.inl ⟨by rfl, ?_⟩) ((And.intro x_d_rf2 (And.intro x_c_rf2 x_f_rf2))) ?_
      rotate_left
      · intro wq hSq
        go_simp
        exact rfl
      try simp only [Act.put, List.setIfInBounds_toArray, List.set_cons_zero, List.set_cons_succ]
      refine takeH 9 157 (v := ?vrf9_8) rfl (by rfl) (by kernel_rfl) (by kernel_rfl) (by kernel_rfl) (fun _ _ _ h => h) (Or.inl ⟨by rfl, ?_⟩) ((And.intro x_d_rf2 (And.intro x_c_rf2 x_f_rf2))) ?_
      rotate_left
      · intro wq hSq
        go_simp
        exact rfl
      try simp only [Act.put, List.setIfInBounds_toArray, List.set_cons_zero, List.set_cons_succ]
      refine takeH 10 158 (v := ?vrf10_9) rfl (by rfl) (by kernel_rfl) (by kernel_rfl) (by kernel_rfl) (fun _ _ _ h => h) (Or.inl ⟨by rfl, ?_⟩) ((And.intro x_d_rf2 (And.intro x_c_rf2 x_f_rf2))) ?_
      rotate_left
      · intro wq hSq
        go_simp
        exact rfl
      try simp only [Act.put, List.setIfInBounds_toArray, List.set_cons_zero, List.set_cons_succ]
      refine takeH 11 159 (v := ?vrf11_10) rfl (by rfl) (by kernel_rfl) (by kernel_rfl) (by kernel_rfl) (fun _ _ _ h => h) (Or.inl ⟨by rfl, ?_⟩) ((And.intro x_d_rf2 (And.intro x_c_rf2 x_f_rf2))) ?_
      rotate_left
      · intro wq hSq
        go_simp
        exact rfl
      try simp only [Act.put, List.setIfInBounds_toArray, List.set_cons_zero, List.set_cons_succ]
      refine takeH 12 160 (v := ?vrf12_11) rfl (by rfl) (by kernel_rfl) (by kernel_rfl) (by kernel_rfl) (fun _ _ _ h => h) (Or.inl ⟨by rfl, ?_⟩) ((And.intro x_d_rf2 (And.intro x_c_rf2 x_f_rf2))) ?_
      rotate_left
      · intro wq hSq
        go_simp
        exact rfl
      try simp only [Act.put, List.setIfInBounds_toArray, List.set_cons_zero, List.set_cons_succ]
      refine takeH 13 161 (v := undef) rfl (by rfl) (by kernel_rfl) (by kernel_rfl) (by kernel_rfl) (fun _ _ _ h => h) (Or.inr ⟨by rfl, rfl⟩) ((And.intro x_d_rf2 (And.intro x_c_rf2 x_f_rf2))) ?_
      try simp only [Act.put, List.setIfInBounds_toArray, List.set_cons_zero, List.set_cons_succ]
      refine takeH 14 162 (v := undef) rfl (by rfl) (by kernel_rfl) (by kernel_rfl) (by kernel_rfl) (fun _ _ _ h => h) (Or.inr ⟨by rfl, rfl⟩) ((And.intro x_d_rf2 (And.intro x_c_rf2 x_f_rf2))) ?_
      try simp only [Act.put, List.setIfInBounds_toArray, List.set_cons_zero, List.set_cons_succ]
      refine takeH 15 163 (v := ?vrf15_12) rfl (by rfl) (by kernel_rfl) (by kernel_rfl) (by kernel_rfl) (fun _ _ _ h => h) (Or.inl ⟨by rfl, ?_⟩) ((And.intro x_d_rf2 (And.intro x_c_rf2 x_f_rf2))) ?_
      rotate_left
      · intro wq hSq
        go_simp
        exact rfl
      try simp only [Act.put, List.setIfInBounds_toArray, List.set_cons_zero, List.set_cons_succ]
      refine takeH 16 164 (v := ?vrf16_13) rfl (by rfl) (by kernel_rfl) (by kernel_rfl) (by kernel_rfl) (fun _ _ _ h => h) (Or.inl ⟨by rfl, ?_⟩) ((And.intro x_d_rf2 (And.intro x_c_rf2 x_f_rf2))) ?_
      rotate_left
      · intro wq hSq
        go_simp
        exact rfl
      try simp only [Act.put, List.setIfInBounds_toArray, List.set_cons_zero, List.set_cons_succ]
      refine takeH 17 165 (v := ?vrf17_14) rfl (by rfl) (by kernel_rfl) (by kernel_rfl) (by kernel_rfl) (fun _ _ _ h => h) (Or.inl ⟨by rfl, ?_⟩) ((And.intro x_d_rf2 (And.intro x_c_rf2 x_f_rf2))) ?_
      rotate_left
      · intro wq hSq
        go_simp
        exact rfl
      try simp only [Act.put, List.setIfInBounds_toArray, List.set_cons_zero, List.set_cons_succ]
      refine wpAnyH_ready (rs := [18]) (by kernel_rfl) (by simp) (AllReadyH.cons rfl (fun K hK => ?_) AllReadyH.nil)
      go_simp
      refine (AL _).mono ?_
      rintro e Wrf15 ⟨rfl, hbrf15⟩
      have x_d_rf15 : Box Wrf15 (w.heap.size) ([v1, v2]) := Box.below x_d_rf2 hbrf15
      have x_c_rf15 : Box Wrf15 (w.heap.size + 2) (C) := Box.below x_c_rf2 hbrf15
      have x_f_rf15 : Box Wrf15 (w.heap.size + 3) (F) := Box.below x_f_rf2 hbrf15
      have Brf15 := below_thru Brf2 hbrf15
      clear x_d_rf2 x_c_rf2 x_f_rf2 Brf2 hbrf15
      refine hK.out _ _ (And.intro x_d_rf15 (And.intro x_c_rf15 x_f_rf15)) (fun _ => ?_); clear hK K
      refine takeH 19 167 (v := ?vrf19_16) rfl (by rfl) (by kernel_rfl) (by kernel_rfl) (by kernel_rfl) (fun _ _ _ h => h) (Or.inl ⟨by rfl, ?_⟩) ((And.intro x_d_rf15 (And.intro x_c_rf15 x_f_rf15))) ?_
      rotate_left
      · intro wq hSq
        go_simp
        exact rfl
      try simp only [Act.put, List.setIfInBounds_toArray, List.set_cons_zero, List.set_cons_succ]
      refine takeH 20 8 (v := ?vrf20_17) rfl (by rfl) (by kernel_rfl) (by kernel_rfl) (by kernel_rfl) (fun _ _ _ h => h) (Or.inl ⟨by rfl, ?_⟩) ((And.intro x_d_rf15 (And.intro x_c_rf15 x_f_rf15))) ?_
      rotate_left
      · intro wq hSq
        go_simp
        exact rfl
      try simp only [Act.put, List.setIfInBounds_toArray, List.set_cons_zero, List.set_cons_succ]
      refine wpAnyH_done (by kernel_rfl) ?_ _
      go_wp2_with fail
      go_returns
      exact ⟨rfl, Brf15⟩
    ·
      have CN1 := CN.out (by rw [e]; decide); subst e; clear CA CF PC2 CN HQ2
      clear K_w6_7
      clear x_b7
      clear Ib
      go_upto_region 19 with fail
      refine wp_region_held_drew (S := fun W => Box W (w.heap.size) ([v1, v2]) ∧ Box W (w.heap.size + 2) (C) ∧ Box W (w.heap.size + 3) (F)) (by kernel_rfl) (And.intro (x_d7).drew (And.intro (x_c7).drew (x_f7).drew)) (fun _ => ?_)
      refine F_drew (F := fun W => wpAnyH _ _ _ _ _ _ _ _ W) ?_
      intro Wrg0 hbrg0
      clear hs7
      have x_d_rg0 : Box Wrg0 (w.heap.size) ([v1, v2]) := Box.below x_d7 hbrg0
      have x_c_rg0 : Box Wrg0 (w.heap.size + 2) (C) := Box.below x_c7 hbrg0
      have x_f_rg0 : Box Wrg0 (w.heap.size + 3) (F) := Box.below x_f7 hbrg0
      have Brg0 := below_thru hB7 hbrg0
      clear x_d7 x_c7 x_f7 hB7 hbrg0
      refine takeH 0 148 (v := .agg ([v1, v2]).toArray) rfl (by rfl) (by kernel_rfl) (by kernel_rfl) (by kernel_rfl) (fun _ _ _ h => h) (yieldsIf_load_mid (by rfl) _ _ rfl _ _ rfl ([v1, v2]) _ (fun wq hq => Box.range (hq.1)) Try.underlying25 rfl SD.out) ((And.intro x_d_rg0 (And.intro x_c_rg0 x_f_rg0))) ?_
      try simp only [Act.put, List.setIfInBounds_toArray, List.set_cons_zero, List.set_cons_succ]
      refine takeH 1 149 (v := .agg (C).toArray) rfl (by rfl) (by kernel_rfl) (by kernel_rfl) (by kernel_rfl) (fun _ _ _ h => h) (yieldsIf_load_mid (by rfl) _ _ rfl _ _ rfl (C) _ (fun wq hq => Box.range (hq.2.1)) Try.underlying39 rfl SC.out) ((And.intro x_d_rg0 (And.intro x_c_rg0 x_f_rg0))) ?_
      try simp only [Act.put, List.setIfInBounds_toArray, List.set_cons_zero, List.set_cons_succ]
      refine wpAnyH_ready (rs := [2]) (by kernel_rfl) (by simp) (AllReadyH.cons rfl (fun K hK => ?_) AllReadyH.nil)
      go_simp
      refine (CQ _).mono ?_
      rintro e Wrg1 ⟨rfl, hbrg1⟩
      have x_d_rg1 : Box Wrg1 (w.heap.size) ([v1, v2]) := Box.below x_d_rg0 hbrg1
      have x_c_rg1 : Box Wrg1 (w.heap.size + 2) (C) := Box.below x_c_rg0 hbrg1
      have x_f_rg1 : Box Wrg1 (w.heap.size + 3) (F) := Box.below x_f_rg0 hbrg1
      have Brg1 := below_thru Brg0 hbrg1
      clear x_d_rg0 x_c_rg0 x_f_rg0 Brg0 hbrg1
      refine hK.out _ _ (And.intro x_d_rg1 (And.intro x_c_rg1 x_f_rg1)) (fun _ => ?_); clear hK K
      refine wpAnyH_ready (rs := [3]) (by kernel_rfl) (by simp) (AllReadyH.cons rfl (fun K hK => ?_) AllReadyH.nil)
      go_simp
      refine (CN1 _ _ (HD.out.below Brg1)).mono ?_
      rintro e Wrg2 ⟨rfl, hbrg2⟩
      have x_d_rg2 : Box Wrg2 (w.heap.size) ([v1, v2]) := Box.below x_d_rg1 hbrg2
      have x_c_rg2 : Box Wrg2 (w.heap.size + 2) (C) := Box.below x_c_rg1 hbrg2
      have x_f_rg2 : Box Wrg2 (w.heap.size + 3) (F) := Box.below x_f_rg1 hbrg2
      have Brg2 := below_thru Brg1 hbrg2
      clear x_d_rg1 x_c_rg1 x_f_rg1 Brg1 hbrg2
      refine hK.out _ _ (And.intro x_d_rg2 (And.intro x_c_rg2 x_f_rg2)) (fun _ => ?_); clear hK K
      refine takeH 4 152 (v := ?vrg4_3) rfl (by rfl) (by kernel_rfl) (by kernel_rfl) (by kernel_rfl) (fun _ _ _ h => h) (Or.inl ⟨by rfl, ?_⟩) ((And.intro x_d_rg2 (And.intro x_c_rg2 x_f_rg2))) ?_
      rotate_left
      · intro wq hSq
        go_simp
        exact rfl
      try simp only [Act.put, List.setIfInBounds_toArray, List.set_cons_zero, List.set_cons_succ]
      refine takeH 5 153 (v := ?vrg5_4) rfl (by rfl) (by kernel_rfl) (by kernel_rfl) (by kernel_rfl) (fun _ _ _ h => h) (Or.inl ⟨by rfl, ?_⟩) ((And.intro x_d_rg2 (And.intro x_c_rg2 x_f_rg2))) ?_
      rotate_left
      · intro wq hSq
        go_simp
        exact rfl
      try simp only [Act.put, List.setIfInBounds_toArray, List.set_cons_zero, List.set_cons_succ]
      refine takeH 6 154 (v := ?vrg6_5) rfl (by rfl) (by kernel_rfl) (by kernel_rfl) (by kernel_rfl) (fun _ _ _ h => h) (Or.inl ⟨by rfl, ?_⟩) ((And.intro x_d_rg2 (And.intro x_c_rg2 x_f_rg2))) ?_
      rotate_left
      · intro wq hSq
        go_simp
        exact rfl
      try simp only [Act.put, List.setIfInBounds_toArray, List.set_cons_zero, List.set_cons_succ]
      refine takeH 7 155 (v := ?vrg7_6) rfl (by rfl) (by kernel_rfl) (by kernel_rfl) (by kernel_rfl) (fun _ _ _ h => h) (Or.inl ⟨by rfl, ?_⟩) ((And.intro x_d_rg2 (And.intro x_c_rg2 x_f_rg2))) ?_
      rotate_left
      · intro wq hSq
        go_simp
        exact rfl
      try simp only [Act.put, List.setIfInBounds_toArray, List.set_cons_zero, List.set_cons_succ]
      refine takeH 8 156 (v := ?vrg8_7) rfl (by rfl) (by kernel_rfl) (by kernel_rfl) (by kernel_rfl) (fun _ _ _ h => h) (Or.inl ⟨by rfl, ?_⟩) ((And.intro x_d_rg2 (And.intro x_c_rg2 x_f_rg2))) ?_
      rotate_left
      · intro wq hSq
        go_simp
        exact rfl
      try simp only [Act.put, List.setIfInBounds_toArray, List.set_cons_zero, List.set_cons_succ]
      refine takeH 9 157 (v := ?vrg9_8) rfl (by rfl) (by kernel_rfl) (by kernel_rfl) (by kernel_rfl) (fun _ _ _ h => h) (Or.inl ⟨by rfl, ?_⟩) ((And.intro x_d_rg2 (And.intro x_c_rg2 x_f_rg2))) ?_
      rotate_left
      · intro wq hSq
        go_simp
        exact rfl
      try simp only [Act.put, List.setIfInBounds_toArray, List.set_cons_zero, List.set_cons_succ]
      refine takeH 10 158 (v := ?vrg10_9) rfl (by rfl) (by kernel_rfl) (by kernel_rfl) (by kernel_rfl) (fun _ _ _ h => h) (Or.inl ⟨by rfl, ?_⟩) ((And.intro x_d_rg2 (And.intro x_c_rg2 x_f_rg2))) ?_
      rotate_left
      · intro wq hSq
        go_simp
        exact rfl
      try simp only [Act.put, List.setIfInBounds_toArray, List.set_cons_zero, List.set_cons_succ]
      refine takeH 11 159 (v := ?vrg11_10) rfl (by rfl) (by kernel_rfl) (by kernel_rfl) (by kernel_rfl) (fun _ _ _ h => h) (Or.inl ⟨by rfl, ?_⟩) ((And.intro x_d_rg2 (And.intro x_c_rg2 x_f_rg2))) ?_
      rotate_left
      · intro wq hSq
        go_simp
        exact rfl
      try simp only [Act.put, List.setIfInBounds_toArray, List.set_cons_zero, List.set_cons_succ]
      refine takeH 12 160 (v := ?vrg12_11) rfl (by rfl) (by kernel_rfl) (by kernel_rfl) (by kernel_rfl) (fun _ _ _ h => h) (Or.inl ⟨by rfl, ?_⟩) ((And.intro x_d_rg2 (And.intro x_c_rg2 x_f_rg2))) ?_
      rotate_left
      · intro wq hSq
        go_simp
        exact rfl
      try simp only [Act.put, List.setIfInBounds_toArray, List.set_cons_zero, List.set_cons_succ]
      refine takeH 13 161 (v := ?vrg13_12) rfl (by rfl) (by kernel_rfl) (by kernel_rfl) (by kernel_rfl) (fun _ _ _ h => h) (Or.inl ⟨by rfl, ?_⟩) ((And.intro x_d_rg2 (And.intro x_c_rg2 x_f_rg2))) ?_
      rotate_left
      · intro wq hSq
        go_simp
        exact rfl
      try simp only [Act.put, List.setIfInBounds_toArray, List.set_cons_zero, List.set_cons_succ]
      refine takeH 14 162 (v := ?vrg14_13) rfl (by rfl) (by kernel_rfl) (by kernel_rfl) (by kernel_rfl) (fun _ _ _ h => h) (Or.inl ⟨by rfl, ?_⟩) ((And.intro x_d_rg2 (And.intro x_c_rg2 x_f_rg2))) ?_
      rotate_left
      · intro wq hSq
        go_simp
        exact rfl
      try simp only [Act.put, List.setIfInBounds_toArray, List.set_cons_zero, List.set_cons_succ]
      refine takeH 15 163 (v := ?vrg15_14) rfl (by rfl) (by kernel_rfl) (by kernel_rfl) (by kernel_rfl) (fun _ _ _ h => h) (Or.inl ⟨by rfl, ?_⟩) ((And.intro x_d_rg2 (And.intro x_c_rg2 x_f_rg2))) ?_
      rotate_left
      · intro wq hSq
        go_simp
        exact rfl
      try simp only [Act.put, List.setIfInBounds_toArray, List.set_cons_zero, List.set_cons_succ]
      refine takeH 16 164 (v := ?vrg16_15) rfl (by rfl) (by kernel_rfl) (by kernel_rfl) (by kernel_rfl) (fun _ _ _ h => h) (Or.inl ⟨by rfl, ?_⟩) ((And.intro x_d_rg2 (And.intro x_c_rg2 x_f_rg2))) ?_
      rotate_left
      · intro wq hSq
        go_simp
        exact rfl
      try simp only [Act.put, List.setIfInBounds_toArray, List.set_cons_zero, List.set_cons_succ]
      refine takeH 17 165 (v := ?vrg17_16) rfl (by rfl) (by kernel_rfl) (by kernel_rfl) (by kernel_rfl) (fun _ _ _ h => h) (Or.inl ⟨by rfl, ?_⟩) ((And.intro x_d_rg2 (And.intro x_c_rg2 x_f_rg2))) ?_
      rotate_left
      · intro wq hSq
        go_simp
        exact rfl
      try simp only [Act.put, List.setIfInBounds_toArray, List.set_cons_zero, List.set_cons_succ]
      refine wpAnyH_ready (rs := [18]) (by kernel_rfl) (by simp) (AllReadyH.cons rfl (fun K hK => ?_) AllReadyH.nil)
      go_simp
      refine (AL _).mono ?_
      rintro e Wrg17 ⟨rfl, hbrg17⟩
      have x_d_rg17 : Box Wrg17 (w.heap.size) ([v1, v2]) := Box.below x_d_rg2 hbrg17
      have x_c_rg17 : Box Wrg17 (w.heap.size + 2) (C) := Box.below x_c_rg2 hbrg17
      have x_f_rg17 : Box Wrg17 (w.heap.size + 3) (F) := Box.below x_f_rg2 hbrg17
      have Brg17 := below_thru Brg2 hbrg17
      clear x_d_rg2 x_c_rg2 x_f_rg2 Brg2 hbrg17
      refine hK.out _ _ (And.intro x_d_rg17 (And.intro x_c_rg17 x_f_rg17)) (fun _ => ?_); clear hK K
      refine takeH 19 167 (v := ?vrg19_18) rfl (by rfl) (by kernel_rfl) (by kernel_rfl) (by kernel_rfl) (fun _ _ _ h => h) (Or.inl ⟨by rfl, ?_⟩) ((And.intro x_d_rg17 (And.intro x_c_rg17 x_f_rg17))) ?_
      rotate_left
      · intro wq hSq
        go_simp
        exact rfl
      try simp only [Act.put, List.setIfInBounds_toArray, List.set_cons_zero, List.set_cons_succ]
      refine takeH 20 8 (v := ?vrg20_19) rfl (by rfl) (by kernel_rfl) (by kernel_rfl) (by kernel_rfl) (fun _ _ _ h => h) (Or.inl ⟨by rfl, ?_⟩) ((And.intro x_d_rg17 (And.intro x_c_rg17 x_f_rg17))) ?_
      rotate_left
      · intro wq hSq
        go_simp
        exact rfl
      try simp only [Act.put, List.setIfInBounds_toArray, List.set_cons_zero, List.set_cons_succ]
      refine wpAnyH_done (by kernel_rfl) ?_ _
      go_wp2_with fail
      go_returns
      exact ⟨rfl, Brg17⟩


end Go.Proofs.Ytpccahdbienjeaa
