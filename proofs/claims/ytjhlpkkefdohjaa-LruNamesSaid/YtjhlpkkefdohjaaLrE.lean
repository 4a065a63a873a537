/-
  Package lru, walked: Touch, Remove.
-/
import Derived.Test.YtjhlpkkefdohjaaLrD
namespace Go.Proofs.Ytjhlpkkefdohjaa
open Go.RowKit

theorem ptko_is {v0 : World} {b g h r c d n : Nat} {us : List Value} (lb : v0.heap.size ≤ b) (lg : v0.heap.size ≤ g) (lh : v0.heap.size ≤ h) (bg : b ≠ g) (bh : b ≠ h) (gh : g ≠ h) (rb : r ≠ b) (rg : r ≠ g) (rh : r ≠ h) {i : Nat} {l : List Nat} (hn : l.Nodup) (hlt : ∀ j ∈ l, j < n) (hil : i ∈ l) (w : World) (hB : Below v0.heap.size v0 w) (xb : Box w b [.slice (some ⟨g, 0, none⟩) n c, .slice (some ⟨h, 0, none⟩) n d, .int .i64 (hdO l), .int .i64 (lstO (-1) l)]) (xg : Box w g (((ofL n l).pv).map (Value.int .i64))) (xh : Box w h (((ofL n l).nx).map (Value.int .i64))) (xr : Box w r us) : Calls Try.prog 33 #[.pointer (some ⟨b, 0, none⟩), .int .i64 (i : Int)] w fun e w' => e = .returned (.tuple #[]) ∧ Box w' b [.slice (some ⟨g, 0, none⟩) n c, .slice (some ⟨h, 0, none⟩) n d, .int .i64 (hdO (woO l i)), .int .i64 (lstO (-1) (woO l i))] ∧ Box w' g (((ofL n (woO l i)).pv).map (Value.int .i64)) ∧ Box w' h (((ofL n (woO l i)).nx).map (Value.int .i64)) ∧ Box w' r us ∧ Below v0.heap.size v0 w' := by
  obtain ⟨a, b', rfl⟩ := List.append_of_mem hil
  have hi : i < n := hlt i hil
  rw [woO_mid hn]
  cases b' with
  | nil =>
    rcases lstO_mem a (-1) with ⟨rfl, _⟩ | ⟨e, hea, he⟩
    · exact ptko_nn lb lg lh bg bh gh rb rg rh hn hi w hB xb xg xh xr
    · exact ptko_sn lb lg lh bg bh gh rb rg rh he (hlt e (List.mem_append_left _ hea)) hn hi w hB xb xg xh xr
  | cons k bs =>
    have hk : k < n := hlt k (by simp)
    rcases lstO_mem a (-1) with ⟨rfl, _⟩ | ⟨e, hea, he⟩
    · exact ptko_ns lb lg lh bg bh gh rb rg rh hn hi hk w hB xb xg xh xr
    · exact ptko_ss lb lg lh bg bh gh rb rg rh he (hlt e (List.mem_append_left _ hea)) hn hi hk w hB xb xg xh xr
theorem pput1_is {v0 : World} {b g h r c d n : Nat} {us : List Value} (lb : v0.heap.size ≤ b) (lg : v0.heap.size ≤ g) (lh : v0.heap.size ≤ h) (bg : b ≠ g) (bh : b ≠ h) (gh : g ≠ h) (rb : r ≠ b) (rg : r ≠ g) (rh : r ≠ h) {i : Nat} {l : List Nat} (hlt : ∀ j ∈ l, j < n) (hi : i < n) (hil : i ∉ l) (w : World) (hB : Below v0.heap.size v0 w) (xb : Box w b [.slice (some ⟨g, 0, none⟩) n c, .slice (some ⟨h, 0, none⟩) n d, .int .i64 (hdO l), .int .i64 (lstO (-1) l)]) (xg : Box w g (((ofL n l).pv).map (Value.int .i64))) (xh : Box w h (((ofL n l).nx).map (Value.int .i64))) (xr : Box w r us) : Calls Try.prog 34 #[.pointer (some ⟨b, 0, none⟩), .int .i64 (i : Int)] w fun e w' => e = .returned (.tuple #[]) ∧ Box w' b [.slice (some ⟨g, 0, none⟩) n c, .slice (some ⟨h, 0, none⟩) n d, .int .i64 (hdO (i :: l)), .int .i64 (lstO (-1) (i :: l))] ∧ Box w' g (((ofL n (i :: l)).pv).map (Value.int .i64)) ∧ Box w' h (((ofL n (i :: l)).nx).map (Value.int .i64)) ∧ Box w' r us ∧ Below v0.heap.size v0 w' := by
  cases l with
  | nil => exact pput1_n lb lg lh bg bh gh rb rg rh hi w hB xb xg xh xr
  | cons k bs => exact pput1_s lb lg lh bg bh gh rb rg rh hil hi (hlt k List.mem_cons_self) w hB xb xg xh xr

set_option maxRecDepth 100000 in
set_option maxHeartbeats 6400000 in
theorem pltch_a {v : Value} {O : Od} {p : Int} (h : ∀ l, ¬ VO O l) (w : World) (h1 : IsO w v O) : Calls Try.prog 12 #[v, .int .i64 p] w fun e w' => ∃ v, e = .returned (.tuple #[v, .int .i64 8]) ∧ ResO Od.zero w v w' := by
  have CK := fun (W : World) (u : Value) (hu9 : IsO W u O) => plchk_is W hu9 (ChkO.bad h)
  have HO := Lib.hid h1
  obtain ⟨v1, v2, rfl, g1, g2⟩ := id h1
  obtain ⟨a1, c1, rfl, hr1⟩ := id g1; obtain ⟨a2, c2, rfl, hr2⟩ := id g2
  have m1 := hr1.most; have r1 := hr1.room; have m2 := hr2.most; have r2 := hr2.room; have H1 := Lib.hid g1; have H2 := Lib.hid g2
  clear hr1 hr2 g1 g2 h1
  have BI := fun W => build_od0 W; have SA := Lib.hid (size_od (.slice a1 O.pv.length c1) (.slice a2 O.nx.length c2) (.int .i64 O.hd) (.int .i64 O.tl))
  go_enter Try.func12, Try.ntmps12
  go_upto_region 1 with fail
  refine F_gen (F := fun W => Code.wp _ _ _ _ W) (J := fun W => Box W (w.heap.size) ([.slice a1 O.pv.length c1, .slice a2 O.nx.length c2, .int .i64 O.hd, .int .i64 O.tl]) ∧ Box W (w.heap.size + 1) (od0) ∧ Below w.heap.size w W) (And.intro (Box.alloc (Box.newc rfl rfl) _) (And.intro (Box.newc rfl (by simp)) (by go_grown))) ?_
  intro w0 ⟨e_a, e_r, hB0⟩
  have hs0 := hB0.size
  have x_a0 := e_a; clear e_a
  have x_r0 := e_r; clear e_r
  go_wp2_with (refine wpList_load_box9 rfl _ _ rfl x_a0 rfl Try.underlying24 rfl SA.out ?_)
  refine (CK _ _ (HO.out.below hB0)).mono ?_
  rintro e w1 ⟨rfl, hb⟩
  have hB1 : Below w.heap.size w w1 := below_thru hB0 hb
  have hs1 := hB1.size
  have x_a1 : Box w1 (w.heap.size) ([.slice a1 O.pv.length c1, .slice a2 O.nx.length c2, .int .i64 O.hd, .int .i64 O.tl]) := Box.below x_a0 hb
  have x_r1 : Box w1 (w.heap.size + 1) (od0) := Box.below x_r0 hb
  clear hB0 hs0 x_a0 x_r0
  clear hb
  have lq := (x_r1).lt
  go_wp2_with (first | (refine wpList_build9 rfl 24 _ rfl (us := #[]) (by rfl) (BI _) ?_) | (refine wpList_store_box (cs := od0) rfl _ _ _ rfl x_r1 rfl rfl size_od0 rfl one_od0 ?_; intro W99 hW99))
  exact bodyPost_ret (results_box2 Try.results12 hW99.box rfl rfl Try.underlying24 rfl size_od0) rfl ⟨_, rfl, isO_zero _, freshO_zero _, hW99.below _ _ (by omega) hB1⟩

set_option maxRecDepth 100000 in
set_option maxHeartbeats 6400000 in
theorem pltch_b {v : Value} {O : Od} {p : Int} {l : List Nat} (hV : VO O l) (hp : p < 0 ∨ (O.pv.length : Int) ≤ p) (w : World) (h1 : IsO w v O) : Calls Try.prog 12 #[v, .int .i64 p] w fun e w' => ∃ v, e = .returned (.tuple #[v, .int .i64 2]) ∧ ResO Od.zero w v w' := by
  have CK := fun (W : World) (u : Value) (hu9 : IsO W u O) => plchk_is W hu9 (ChkO.good hV)
  have PL := fun (W : World) (u : Value) (h : IsO W u O) => plpl_is (p := p) (b := false) W h ⟨fun h => (Bool.false_ne_true h).elim, fun h => absurd h (by omega)⟩; clear hp
  have HO := Lib.hid h1
  obtain ⟨v1, v2, rfl, g1, g2⟩ := id h1
  obtain ⟨a1, c1, rfl, hr1⟩ := id g1; obtain ⟨a2, c2, rfl, hr2⟩ := id g2
  have m1 := hr1.most; have r1 := hr1.room; have m2 := hr2.most; have r2 := hr2.room; have H1 := Lib.hid g1; have H2 := Lib.hid g2
  clear hr1 hr2 g1 g2 h1
  have BI := fun W => build_od0 W; have SA := Lib.hid (size_od (.slice a1 O.pv.length c1) (.slice a2 O.nx.length c2) (.int .i64 O.hd) (.int .i64 O.tl))
  go_enter Try.func12, Try.ntmps12
  go_upto_region 1 with fail
  refine F_gen (F := fun W => Code.wp _ _ _ _ W) (J := fun W => Box W (w.heap.size) ([.slice a1 O.pv.length c1, .slice a2 O.nx.length c2, .int .i64 O.hd, .int .i64 O.tl]) ∧ Box W (w.heap.size + 1) (od0) ∧ Below w.heap.size w W) (And.intro (Box.alloc (Box.newc rfl rfl) _) (And.intro (Box.newc rfl (by simp)) (by go_grown))) ?_
  intro w0 ⟨e_a, e_r, hB0⟩
  have hs0 := hB0.size
  have x_a0 := e_a; clear e_a
  have x_r0 := e_r; clear e_r
  go_wp2_with (refine wpList_load_box9 rfl _ _ rfl x_a0 rfl Try.underlying24 rfl SA.out ?_)
  refine (CK _ _ (HO.out.below hB0)).mono ?_
  rintro e w1 ⟨rfl, hb⟩
  have hB1 : Below w.heap.size w w1 := below_thru hB0 hb
  have hs1 := hB1.size
  have x_a1 : Box w1 (w.heap.size) ([.slice a1 O.pv.length c1, .slice a2 O.nx.length c2, .int .i64 O.hd, .int .i64 O.tl]) := Box.below x_a0 hb
  have x_r1 : Box w1 (w.heap.size + 1) (od0) := Box.below x_r0 hb
  clear hB0 hs0 x_a0 x_r0
  clear hb
  go_wp2_with (refine wpList_load_box9 rfl _ _ rfl x_a1 rfl Try.underlying24 rfl SA.out ?_)
  refine (PL _ _ (HO.out.below hB1)).mono ?_
  rintro e w2 ⟨rfl, hb⟩
  have hB2 : Below w.heap.size w w2 := below_thru hB1 hb
  have hs2 := hB2.size
  have x_a2 : Box w2 (w.heap.size) ([.slice a1 O.pv.length c1, .slice a2 O.nx.length c2, .int .i64 O.hd, .int .i64 O.tl]) := Box.below x_a1 hb
  have x_r2 : Box w2 (w.heap.size + 1) (od0) := Box.below x_r1 hb
  clear hB1 hs1 x_a1 x_r1
  clear hb
  have lq := (x_r2).lt
  go_wp2_with (first | (refine wpList_build9 rfl 24 _ rfl (us := #[]) (by rfl) (BI _) ?_) | (refine wpList_store_box (cs := od0) rfl _ _ _ rfl x_r2 rfl rfl size_od0 rfl one_od0 ?_; intro W99 hW99))
  exact bodyPost_ret (results_box2 Try.results12 hW99.box rfl rfl Try.underlying24 rfl size_od0) rfl ⟨_, rfl, isO_zero _, freshO_zero _, hW99.below _ _ (by omega) hB2⟩

set_option maxRecDepth 100000 in
set_option maxHeartbeats 6400000 in
theorem pltch_c {v : Value} {O : Od} {l : List Nat} {i : Nat} (hV : VO O l) (hi : i < O.pv.length) (hil : i ∈ l) (w : World) (h1 : IsO w v O) : Calls Try.prog 12 #[v, .int .i64 (i : Int)] w fun e w' => ∃ v, e = .returned (.tuple #[v, .int .i64 0]) ∧ ResO (ofL O.pv.length (i :: woO l i)) w v w' := by
  have CK := fun (W : World) (u : Value) (hu9 : IsO W u O) => plchk_is W hu9 (ChkO.good hV)
  have PL := fun (W : World) (u : Value) (h : IsO W u O) => plpl_is (p := (i : Int)) (b := true) W h ⟨fun _ => ⟨by omega, by omega⟩, fun _ => rfl⟩; have PI := fun (W : World) (u : Value) (h : IsO W u O) => plis_is (b := true) hV hi W h ⟨fun _ => hil, fun _ => rfl⟩
  have CP := fun (W : World) (u : Value) (h : IsO W u O) => plcop_is W h ⟨by have := hV.most; omega, by have := hV.most; have := hV.len; omega⟩
  have hu := hV.len; have hp := hV.pos; have hlt := hV.lt
  have HO := Lib.hid h1
  obtain ⟨v1, v2, rfl, g1, g2⟩ := id h1
  obtain ⟨a1, c1, rfl, hr1⟩ := id g1; obtain ⟨a2, c2, rfl, hr2⟩ := id g2
  have m1 := hr1.most; have r1 := hr1.room; have m2 := hr2.most; have r2 := hr2.room; have H1 := Lib.hid g1; have H2 := Lib.hid g2
  clear hr1 hr2 g1 g2 h1
  obtain ⟨n, hn⟩ : ∃ n, O.pv.length = n := ⟨_, rfl⟩
  rw [hu] at r2 H2 HO ⊢; rw [hn] at hu r1 H1 HO hi hp hlt ⊢
  have HN := Lib.hid hn; have HU := Lib.hid hu; clear hn hu
  have HP := Lib.hid (show O.pv = (ofL n l).pv by rw [← HN.out]; exact congrArg Od.pv hV.eq); have HX := Lib.hid (show O.nx = (ofL n l).nx by rw [← HN.out]; exact congrArg Od.nx hV.eq); have HH := Lib.hid hV.hd; have HT := Lib.hid hV.tl; have hnd := hV.nodup
  have SA := Lib.hid (size_od (.slice a1 n c1) (.slice a2 n c2) (.int .i64 O.hd) (.int .i64 O.tl)); have HLT := Lib.hid hlt; have HIL := Lib.hid hil; have HND := Lib.hid hnd; have HI := Lib.hid hi; clear hV hil hlt hnd
  go_enter Try.func12, Try.ntmps12
  go_upto_region 1 with fail
  refine F_gen (F := fun W => Code.wp _ _ _ _ W) (J := fun W => Box W (w.heap.size) ([.slice a1 n c1, .slice a2 n c2, .int .i64 O.hd, .int .i64 O.tl]) ∧ Box W (w.heap.size + 1) (od0) ∧ Below w.heap.size w W) (And.intro (Box.alloc (Box.newc rfl rfl) _) (And.intro (Box.newc rfl (by simp)) (by go_grown))) ?_
  intro w0 ⟨e_a, e_r, hB0⟩
  have hs0 := hB0.size
  have x_a0 := e_a; clear e_a
  have x_r0 := e_r; clear e_r
  go_wp2_with (refine wpList_load_box9 rfl _ _ rfl x_a0 rfl Try.underlying24 rfl SA.out ?_)
  refine (CK _ _ (HO.out.below hB0)).mono ?_
  rintro e w1 ⟨rfl, hb⟩
  have hB1 : Below w.heap.size w w1 := below_thru hB0 hb
  have hs1 := hB1.size
  have x_a1 : Box w1 (w.heap.size) ([.slice a1 n c1, .slice a2 n c2, .int .i64 O.hd, .int .i64 O.tl]) := Box.below x_a0 hb
  have x_r1 : Box w1 (w.heap.size + 1) (od0) := Box.below x_r0 hb
  clear hB0 hs0 x_a0 x_r0
  clear hb
  go_wp2_with (refine wpList_load_box9 rfl _ _ rfl x_a1 rfl Try.underlying24 rfl SA.out ?_)
  refine (PL _ _ (HO.out.below hB1)).mono ?_
  rintro e w2 ⟨rfl, hb⟩
  have hB2 : Below w.heap.size w w2 := below_thru hB1 hb
  have hs2 := hB2.size
  have x_a2 : Box w2 (w.heap.size) ([.slice a1 n c1, .slice a2 n c2, .int .i64 O.hd, .int .i64 O.tl]) := Box.below x_a1 hb
  have x_r2 : Box w2 (w.heap.size + 1) (od0) := Box.below x_r1 hb
  clear hB1 hs1 x_a1 x_r1
  clear hb
  go_wp2_with (refine wpList_load_box9 rfl _ _ rfl x_a2 rfl Try.underlying24 rfl SA.out ?_)
  refine (PI _ _ (HO.out.below hB2)).mono ?_
  rintro e w3 ⟨rfl, hb⟩
  have hB3 : Below w.heap.size w w3 := below_thru hB2 hb
  have hs3 := hB3.size
  have x_a3 : Box w3 (w.heap.size) ([.slice a1 n c1, .slice a2 n c2, .int .i64 O.hd, .int .i64 O.tl]) := Box.below x_a2 hb
  have x_r3 : Box w3 (w.heap.size + 1) (od0) := Box.below x_r2 hb
  clear hB2 hs2 x_a2 x_r2
  clear hb
  go_wp2_with (refine wpList_load_box9 rfl _ _ rfl x_a3 rfl Try.underlying24 rfl SA.out ?_)
  refine (CP _ _ (HO.out.below hB3)).mono ?_
  rintro e w5 ⟨va, vb, rfl, oa, ob, ap, hb⟩
  rw [HN.out, HP.out] at oa; rw [HU.out, HX.out] at ob
  obtain ⟨g, c, h, d, rfl, rfl, lg, lh, gh, hc, hd, xg, xh⟩ := own_order oa ob ap (by omega)
  have kg : w.heap.size + 2 ≤ g := by have := (x_r3).lt; omega
  have kh : w.heap.size + 2 ≤ h := by have := (x_r3).lt; omega
  clear oa ob ap
  have hB4 : Below w.heap.size w w5 := below_thru hB3 hb
  have hs4 := hB4.size
  have x_a4 : Box w5 (w.heap.size) ([.slice a1 n c1, .slice a2 n c2, .int .i64 O.hd, .int .i64 O.tl]) := Box.below x_a3 hb
  have x_r4 : Box w5 (w.heap.size + 1) (od0) := Box.below x_r3 hb
  clear hB3 hs3 x_a3 x_r3
  clear hb lg lh CK PL PI CP
  rw [HH.out, HT.out]
  have x_g4 : Box w5 g (((ofL n l).pv).map (Value.int .i64)) := xg; have x_h4 : Box w5 h (((ofL n l).nx).map (Value.int .i64)) := xh; clear xg xh
  have lr_a := (x_a4).lt
  have lr_r := (x_r4).lt
  have lr_g := (x_g4).lt
  have lr_h := (x_h4).lt
  go_upto_region 8 with (refine wpList_store_box (cs := [.slice (some ⟨g, 0, none⟩) n c, .slice (some ⟨h, 0, none⟩) n d, .int .i64 (hdO l), .int .i64 (lstO (-1) l)]) rfl _ _ _ rfl x_a4 rfl rfl (size_od _ _ _ _) rfl (one_od _ _ _ _ _ _ _ _) ?_; intro W85 hW85)
  have x_r5 : Box W85 (w.heap.size + 1) (od0) := hW85.past _ _ (by omega) x_r4
  have x_g5 : Box W85 (g) (((ofL n l).pv).map (Value.int .i64)) := hW85.past _ _ (by omega) x_g4
  have x_h5 : Box W85 (h) (((ofL n l).nx).map (Value.int .i64)) := hW85.past _ _ (by omega) x_h4
  have x_a5 : Box W85 (w.heap.size) ([.slice (some ⟨g, 0, none⟩) n c, .slice (some ⟨h, 0, none⟩) n d, .int .i64 (hdO l), .int .i64 (lstO (-1) l)]) := hW85.box
  have hB5 : Below w.heap.size w W85 := hW85.below _ _ (by omega) hB4; have hs5 := hB5.size
  clear hW85 hB4 hs4 x_a4 x_r4 x_g4 x_h4 lr_a lr_r lr_g lr_h  
  go_wp2_with fail
  refine (ptko_is (v0 := w) (b := w.heap.size) (g := g) (h := h) (r := w.heap.size + 1) (l := l) (Nat.le_refl _) (by omega) (by omega) (by omega) (by omega) gh (by omega) (by omega) (by omega) HND.out HLT.out HIL.out _ hB5 x_a5 x_g5 x_h5 x_r5).mono ?_
  rintro e w26 ⟨rfl, xa, xg, xh, xr, hb⟩
  clear x_a5 x_g5 x_h5 x_r5 hB5 hs5
  have x_a6 := xa; have x_g6 := xg; have x_h6 := xh; have x_r6 := xr; have hB6 := hb; have hs6 := hB6.size; clear xa xg xh xr hb
  go_wp2_with fail
  refine (pput1_is (v0 := w) (b := w.heap.size) (g := g) (h := h) (r := w.heap.size + 1) (l := (woO l i)) (Nat.le_refl _) (by omega) (by omega) (by omega) (by omega) gh (by omega) (by omega) (by omega) (fun j hj => HLT.out j (woO_mem.1 hj).1) HI.out (woO_self l i) _ hB6 x_a6 x_g6 x_h6 x_r6).mono ?_
  rintro e w27 ⟨rfl, xa, xg, xh, xr, hb⟩
  clear x_a6 x_g6 x_h6 x_r6 hB6 hs6
  have x_a7 := xa; have x_g7 := xg; have x_h7 := xh; have x_r7 := xr; have hB7 := hb; have hs7 := hB7.size; clear xa xg xh xr hb
  have lq := (x_r7).lt; have lqa := (x_a7).lt
  go_wp2_with (first | (refine wpList_load_box9 rfl _ _ rfl x_a7 rfl Try.underlying24 rfl (size_od _ _ _ _) ?_) | (refine wpList_store_box (cs := [.slice (some ⟨g, 0, none⟩) n c, .slice (some ⟨h, 0, none⟩) n d, .int .i64 (hdO (i :: (woO l i))), .int .i64 (lstO (-1) (i :: (woO l i)))]) rfl _ _ _ rfl x_r7 rfl rfl (size_od _ _ _ _) rfl (one_od _ _ _ _ _ _ _ _) ?_; intro W99 hW99))
  have yg := hW99.past _ _ (by omega) x_g7; have yh := hW99.past _ _ (by omega) x_h7
  exact bodyPost_ret (results_box2 Try.results12 hW99.box rfl rfl Try.underlying24 rfl (size_od _ _ _ _)) rfl ⟨_, rfl, IsO.boxes (O := (ofL n (i :: (woO l i)))) yg yh rfl rfl (ofL_pv _ _) (ofL_nx _ _) hc hd, freshO_boxes (by omega) (by omega), hW99.below _ _ (by omega) hB7⟩

set_option maxRecDepth 100000 in
set_option maxHeartbeats 6400000 in
theorem pltch_d {v : Value} {O : Od} {l : List Nat} {i : Nat} (hV : VO O l) (hi : i < O.pv.length) (hil : i ∉ l) (w : World) (h1 : IsO w v O) : Calls Try.prog 12 #[v, .int .i64 (i : Int)] w fun e w' => ∃ v, e = .returned (.tuple #[v, .int .i64 0]) ∧ ResO (ofL O.pv.length (i :: woO l i)) w v w' := by
  have CK := fun (W : World) (u : Value) (hu9 : IsO W u O) => plchk_is W hu9 (ChkO.good hV)
  have PL := fun (W : World) (u : Value) (h : IsO W u O) => plpl_is (p := (i : Int)) (b := true) W h ⟨fun _ => ⟨by omega, by omega⟩, fun _ => rfl⟩; have PI := fun (W : World) (u : Value) (h : IsO W u O) => plis_is (b := false) hV hi W h ⟨fun h => (Bool.false_ne_true h).elim, fun h => absurd h hil⟩
  have CP := fun (W : World) (u : Value) (h : IsO W u O) => plcop_is W h ⟨by have := hV.most; omega, by have := hV.most; have := hV.len; omega⟩
  have hu := hV.len; have hp := hV.pos; have hlt := hV.lt
  have HO := Lib.hid h1
  obtain ⟨v1, v2, rfl, g1, g2⟩ := id h1
  obtain ⟨a1, c1, rfl, hr1⟩ := id g1; obtain ⟨a2, c2, rfl, hr2⟩ := id g2
  have m1 := hr1.most; have r1 := hr1.room; have m2 := hr2.most; have r2 := hr2.room; have H1 := Lib.hid g1; have H2 := Lib.hid g2
  clear hr1 hr2 g1 g2 h1
  obtain ⟨n, hn⟩ : ∃ n, O.pv.length = n := ⟨_, rfl⟩
  rw [hu] at r2 H2 HO ⊢; rw [hn] at hu r1 H1 HO hi hp hlt ⊢
  have HN := Lib.hid hn; have HU := Lib.hid hu; clear hn hu
  have HP := Lib.hid (show O.pv = (ofL n l).pv by rw [← HN.out]; exact congrArg Od.pv hV.eq); have HX := Lib.hid (show O.nx = (ofL n l).nx by rw [← HN.out]; exact congrArg Od.nx hV.eq); have HH := Lib.hid hV.hd; have HT := Lib.hid hV.tl; have hnd := hV.nodup
  have SA := Lib.hid (size_od (.slice a1 n c1) (.slice a2 n c2) (.int .i64 O.hd) (.int .i64 O.tl)); have HLT := Lib.hid hlt; have HIL := Lib.hid hil; have HND := Lib.hid hnd; have HI := Lib.hid hi; clear hV hil hlt hnd
  go_enter Try.func12, Try.ntmps12
  go_upto_region 1 with fail
  refine F_gen (F := fun W => Code.wp _ _ _ _ W) (J := fun W => Box W (w.heap.size) ([.slice a1 n c1, .slice a2 n c2, .int .i64 O.hd, .int .i64 O.tl]) ∧ Box W (w.heap.size + 1) (od0) ∧ Below w.heap.size w W) (And.intro (Box.alloc (Box.newc rfl rfl) _) (And.intro (Box.newc rfl (by simp)) (by go_grown))) ?_
  intro w0 ⟨e_a, e_r, hB0⟩
  have hs0 := hB0.size
  have x_a0 := e_a; clear e_a
  have x_r0 := e_r; clear e_r
  go_wp2_with (refine wpList_load_box9 rfl _ _ rfl x_a0 rfl Try.underlying24 rfl SA.out ?_)
  refine (CK _ _ (HO.out.below hB0)).mono ?_
  rintro e w1 ⟨rfl, hb⟩
  have hB1 : Below w.heap.size w w1 := below_thru hB0 hb
  have hs1 := hB1.size
  have x_a1 : Box w1 (w.heap.size) ([.slice a1 n c1, .slice a2 n c2, .int .i64 O.hd, .int .i64 O.tl]) := Box.below x_a0 hb
  have x_r1 : Box w1 (w.heap.size + 1) (od0) := Box.below x_r0 hb
  clear hB0 hs0 x_a0 x_r0
  clear hb
  go_wp2_with (refine wpList_load_box9 rfl _ _ rfl x_a1 rfl Try.underlying24 rfl SA.out ?_)
  refine (PL _ _ (HO.out.below hB1)).mono ?_
  rintro e w2 ⟨rfl, hb⟩
  have hB2 : Below w.heap.size w w2 := below_thru hB1 hb
  have hs2 := hB2.size
  have x_a2 : Box w2 (w.heap.size) ([.slice a1 n c1, .slice a2 n c2, .int .i64 O.hd, .int .i64 O.tl]) := Box.below x_a1 hb
  have x_r2 : Box w2 (w.heap.size + 1) (od0) := Box.below x_r1 hb
  clear hB1 hs1 x_a1 x_r1
  clear hb
  go_wp2_with (refine wpList_load_box9 rfl _ _ rfl x_a2 rfl Try.underlying24 rfl SA.out ?_)
  refine (PI _ _ (HO.out.below hB2)).mono ?_
  rintro e w3 ⟨rfl, hb⟩
  have hB3 : Below w.heap.size w w3 := below_thru hB2 hb
  have hs3 := hB3.size
  have x_a3 : Box w3 (w.heap.size) ([.slice a1 n c1, .slice a2 n c2, .int .i64 O.hd, .int .i64 O.tl]) := Box.below x_a2 hb
  have x_r3 : Box w3 (w.heap.size + 1) (od0) := Box.below x_r2 hb
  clear hB2 hs2 x_a2 x_r2
  clear hb
  go_wp2_with (refine wpList_load_box9 rfl _ _ rfl x_a3 rfl Try.underlying24 rfl SA.out ?_)
  refine (CP _ _ (HO.out.below hB3)).mono ?_
  rintro e w5 ⟨va, vb, rfl, oa, ob, ap, hb⟩
  rw [HN.out, HP.out] at oa; rw [HU.out, HX.out] at ob
  obtain ⟨g, c, h, d, rfl, rfl, lg, lh, gh, hc, hd, xg, xh⟩ := own_order oa ob ap (by omega)
  have kg : w.heap.size + 2 ≤ g := by have := (x_r3).lt; omega
  have kh : w.heap.size + 2 ≤ h := by have := (x_r3).lt; omega
  clear oa ob ap
  have hB4 : Below w.heap.size w w5 := below_thru hB3 hb
  have hs4 := hB4.size
  have x_a4 : Box w5 (w.heap.size) ([.slice a1 n c1, .slice a2 n c2, .int .i64 O.hd, .int .i64 O.tl]) := Box.below x_a3 hb
  have x_r4 : Box w5 (w.heap.size + 1) (od0) := Box.below x_r3 hb
  clear hB3 hs3 x_a3 x_r3
  clear hb lg lh CK PL PI CP
  rw [HH.out, HT.out]
  have x_g4 : Box w5 g (((ofL n l).pv).map (Value.int .i64)) := xg; have x_h4 : Box w5 h (((ofL n l).nx).map (Value.int .i64)) := xh; clear xg xh
  have lr_a := (x_a4).lt
  have lr_r := (x_r4).lt
  have lr_g := (x_g4).lt
  have lr_h := (x_h4).lt
  go_upto_region 8 with (refine wpList_store_box (cs := [.slice (some ⟨g, 0, none⟩) n c, .slice (some ⟨h, 0, none⟩) n d, .int .i64 (hdO l), .int .i64 (lstO (-1) l)]) rfl _ _ _ rfl x_a4 rfl rfl (size_od _ _ _ _) rfl (one_od _ _ _ _ _ _ _ _) ?_; intro W85 hW85)
  have x_r5 : Box W85 (w.heap.size + 1) (od0) := hW85.past _ _ (by omega) x_r4
  have x_g5 : Box W85 (g) (((ofL n l).pv).map (Value.int .i64)) := hW85.past _ _ (by omega) x_g4
  have x_h5 : Box W85 (h) (((ofL n l).nx).map (Value.int .i64)) := hW85.past _ _ (by omega) x_h4
  have x_a5 : Box W85 (w.heap.size) ([.slice (some ⟨g, 0, none⟩) n c, .slice (some ⟨h, 0, none⟩) n d, .int .i64 (hdO l), .int .i64 (lstO (-1) l)]) := hW85.box
  have hB5 : Below w.heap.size w W85 := hW85.below _ _ (by omega) hB4; have hs5 := hB5.size
  clear hW85 hB4 hs4 x_a4 x_r4 x_g4 x_h4 lr_a lr_r lr_g lr_h  
  go_wp2_with fail
  refine (pput1_is (v0 := w) (b := w.heap.size) (g := g) (h := h) (r := w.heap.size + 1) (l := l) (Nat.le_refl _) (by omega) (by omega) (by omega) (by omega) gh (by omega) (by omega) (by omega) (fun j hj => HLT.out j hj) HI.out HIL.out _ hB5 x_a5 x_g5 x_h5 x_r5).mono ?_
  rintro e w26 ⟨rfl, xa, xg, xh, xr, hb⟩
  clear x_a5 x_g5 x_h5 x_r5 hB5 hs5
  have x_a6 := xa; have x_g6 := xg; have x_h6 := xh; have x_r6 := xr; have hB6 := hb; have hs6 := hB6.size; clear xa xg xh xr hb
  have lq := (x_r6).lt; have lqa := (x_a6).lt
  have HW := Lib.hid (woO_not HIL.out)
  go_wp2_with (first | (refine wpList_load_box9 rfl _ _ rfl x_a6 rfl Try.underlying24 rfl (size_od _ _ _ _) ?_) | (refine wpList_store_box (cs := [.slice (some ⟨g, 0, none⟩) n c, .slice (some ⟨h, 0, none⟩) n d, .int .i64 (hdO (i :: l)), .int .i64 (lstO (-1) (i :: l))]) rfl _ _ _ rfl x_r6 rfl rfl (size_od _ _ _ _) rfl (one_od _ _ _ _ _ _ _ _) ?_; intro W99 hW99))
  have yg := hW99.past _ _ (by omega) x_g6; have yh := hW99.past _ _ (by omega) x_h6
  rw [HW.out]
  exact bodyPost_ret (results_box2 Try.results12 hW99.box rfl rfl Try.underlying24 rfl (size_od _ _ _ _)) rfl ⟨_, rfl, IsO.boxes (O := (ofL n (i :: l))) yg yh rfl rfl (ofL_pv _ _) (ofL_nx _ _) hc hd, freshO_boxes (by omega) (by omega), hW99.below _ _ (by omega) hB6⟩

theorem pltouch_is {v : Value} {O R : Od} {p q : Int} (h : TcO O p R q) (w : World) (h1 : IsO w v O) : Calls Try.prog 12 #[v, .int .i64 p] w fun e w' => ∃ v, e = .returned (.tuple #[v, .int .i64 q]) ∧ ResO R w v w' := by
  rcases h with ⟨rfl, h, rfl⟩ | ⟨l, hV, ⟨rfl, hp, rfl⟩ | ⟨i, rfl, hi, rfl, rfl⟩⟩
  · exact pltch_a h w h1
  · exact pltch_b hV hp w h1
  · by_cases hil : i ∈ l
    · exact pltch_c hV hi hil w h1
    · exact pltch_d hV hi hil w h1

set_option maxRecDepth 100000 in
set_option maxHeartbeats 6400000 in
theorem plrm_a {v : Value} {O : Od} {p : Int} (h : ∀ l, ¬ VO O l) (w : World) (h1 : IsO w v O) : Calls Try.prog 14 #[v, .int .i64 p] w fun e w' => ∃ v, e = .returned (.tuple #[v, .int .i64 8]) ∧ ResO Od.zero w v w' := by
  have CK := fun (W : World) (u : Value) (hu9 : IsO W u O) => plchk_is W hu9 (ChkO.bad h)
  have HO := Lib.hid h1
  obtain ⟨v1, v2, rfl, g1, g2⟩ := id h1
  obtain ⟨a1, c1, rfl, hr1⟩ := id g1; obtain ⟨a2, c2, rfl, hr2⟩ := id g2
  have m1 := hr1.most; have r1 := hr1.room; have m2 := hr2.most; have r2 := hr2.room; have H1 := Lib.hid g1; have H2 := Lib.hid g2
  clear hr1 hr2 g1 g2 h1
  have BI := fun W => build_od0 W; have SA := Lib.hid (size_od (.slice a1 O.pv.length c1) (.slice a2 O.nx.length c2) (.int .i64 O.hd) (.int .i64 O.tl))
  go_enter Try.func14, Try.ntmps14
  go_upto_region 1 with fail
  refine F_gen (F := fun W => Code.wp _ _ _ _ W) (J := fun W => Box W (w.heap.size) ([.slice a1 O.pv.length c1, .slice a2 O.nx.length c2, .int .i64 O.hd, .int .i64 O.tl]) ∧ Box W (w.heap.size + 1) (od0) ∧ Below w.heap.size w W) (And.intro (Box.alloc (Box.newc rfl rfl) _) (And.intro (Box.newc rfl (by simp)) (by go_grown))) ?_
  intro w0 ⟨e_a, e_r, hB0⟩
  have hs0 := hB0.size
  have x_a0 := e_a; clear e_a
  have x_r0 := e_r; clear e_r
  go_wp2_with (refine wpList_load_box9 rfl _ _ rfl x_a0 rfl Try.underlying24 rfl SA.out ?_)
  refine (CK _ _ (HO.out.below hB0)).mono ?_
  rintro e w1 ⟨rfl, hb⟩
  have hB1 : Below w.heap.size w w1 := below_thru hB0 hb
  have hs1 := hB1.size
  have x_a1 : Box w1 (w.heap.size) ([.slice a1 O.pv.length c1, .slice a2 O.nx.length c2, .int .i64 O.hd, .int .i64 O.tl]) := Box.below x_a0 hb
  have x_r1 : Box w1 (w.heap.size + 1) (od0) := Box.below x_r0 hb
  clear hB0 hs0 x_a0 x_r0
  clear hb
  have lq := (x_r1).lt
  go_wp2_with (first | (refine wpList_build9 rfl 24 _ rfl (us := #[]) (by rfl) (BI _) ?_) | (refine wpList_store_box (cs := od0) rfl _ _ _ rfl x_r1 rfl rfl size_od0 rfl one_od0 ?_; intro W99 hW99))
  exact bodyPost_ret (results_box2 Try.results14 hW99.box rfl rfl Try.underlying24 rfl size_od0) rfl ⟨_, rfl, isO_zero _, freshO_zero _, hW99.below _ _ (by omega) hB1⟩

set_option maxRecDepth 100000 in
set_option maxHeartbeats 6400000 in
theorem plrm_b {v : Value} {O : Od} {p : Int} {l : List Nat} (hV : VO O l) (hp : p < 0 ∨ (O.pv.length : Int) ≤ p) (w : World) (h1 : IsO w v O) : Calls Try.prog 14 #[v, .int .i64 p] w fun e w' => ∃ v, e = .returned (.tuple #[v, .int .i64 2]) ∧ ResO Od.zero w v w' := by
  have CK := fun (W : World) (u : Value) (hu9 : IsO W u O) => plchk_is W hu9 (ChkO.good hV)
  have PL := fun (W : World) (u : Value) (h : IsO W u O) => plpl_is (p := p) (b := false) W h ⟨fun h => (Bool.false_ne_true h).elim, fun h => absurd h (by omega)⟩; clear hp
  have HO := Lib.hid h1
  obtain ⟨v1, v2, rfl, g1, g2⟩ := id h1
  obtain ⟨a1, c1, rfl, hr1⟩ := id g1; obtain ⟨a2, c2, rfl, hr2⟩ := id g2
  have m1 := hr1.most; have r1 := hr1.room; have m2 := hr2.most; have r2 := hr2.room; have H1 := Lib.hid g1; have H2 := Lib.hid g2
  clear hr1 hr2 g1 g2 h1
  have BI := fun W => build_od0 W; have SA := Lib.hid (size_od (.slice a1 O.pv.length c1) (.slice a2 O.nx.length c2) (.int .i64 O.hd) (.int .i64 O.tl))
  go_enter Try.func14, Try.ntmps14
  go_upto_region 1 with fail
  refine F_gen (F := fun W => Code.wp _ _ _ _ W) (J := fun W => Box W (w.heap.size) ([.slice a1 O.pv.length c1, .slice a2 O.nx.length c2, .int .i64 O.hd, .int .i64 O.tl]) ∧ Box W (w.heap.size + 1) (od0) ∧ Below w.heap.size w W) (And.intro (Box.alloc (Box.newc rfl rfl) _) (And.intro (Box.newc rfl (by simp)) (by go_grown))) ?_
  intro w0 ⟨e_a, e_r, hB0⟩
  have hs0 := hB0.size
  have x_a0 := e_a; clear e_a
  have x_r0 := e_r; clear e_r
  go_wp2_with (refine wpList_load_box9 rfl _ _ rfl x_a0 rfl Try.underlying24 rfl SA.out ?_)
  refine (CK _ _ (HO.out.below hB0)).mono ?_
  rintro e w1 ⟨rfl, hb⟩
  have hB1 : Below w.heap.size w w1 := below_thru hB0 hb
  have hs1 := hB1.size
  have x_a1 : Box w1 (w.heap.size) ([.slice a1 O.pv.length c1, .slice a2 O.nx.length c2, .int .i64 O.hd, .int .i64 O.tl]) := Box.below x_a0 hb
  have x_r1 : Box w1 (w.heap.size + 1) (od0) := Box.below x_r0 hb
  clear hB0 hs0 x_a0 x_r0
  clear hb
  go_wp2_with (refine wpList_load_box9 rfl _ _ rfl x_a1 rfl Try.underlying24 rfl SA.out ?_)
  refine (PL _ _ (HO.out.below hB1)).mono ?_
  rintro e w2 ⟨rfl, hb⟩
  have hB2 : Below w.heap.size w w2 := below_thru hB1 hb
  have hs2 := hB2.size
  have x_a2 : Box w2 (w.heap.size) ([.slice a1 O.pv.length c1, .slice a2 O.nx.length c2, .int .i64 O.hd, .int .i64 O.tl]) := Box.below x_a1 hb
  have x_r2 : Box w2 (w.heap.size + 1) (od0) := Box.below x_r1 hb
  clear hB1 hs1 x_a1 x_r1
  clear hb
  have lq := (x_r2).lt
  go_wp2_with (first | (refine wpList_build9 rfl 24 _ rfl (us := #[]) (by rfl) (BI _) ?_) | (refine wpList_store_box (cs := od0) rfl _ _ _ rfl x_r2 rfl rfl size_od0 rfl one_od0 ?_; intro W99 hW99))
  exact bodyPost_ret (results_box2 Try.results14 hW99.box rfl rfl Try.underlying24 rfl size_od0) rfl ⟨_, rfl, isO_zero _, freshO_zero _, hW99.below _ _ (by omega) hB2⟩

set_option maxRecDepth 100000 in
set_option maxHeartbeats 6400000 in
theorem plrm_c {v : Value} {O : Od} {l : List Nat} {i : Nat} (hV : VO O l) (hi : i < O.pv.length) (hil : i ∉ l) (w : World) (h1 : IsO w v O) : Calls Try.prog 14 #[v, .int .i64 (i : Int)] w fun e w' => ∃ v, e = .returned (.tuple #[v, .int .i64 6]) ∧ ResO Od.zero w v w' := by
  have CK := fun (W : World) (u : Value) (hu9 : IsO W u O) => plchk_is W hu9 (ChkO.good hV)
  have PL := fun (W : World) (u : Value) (h : IsO W u O) => plpl_is (p := (i : Int)) (b := true) W h ⟨fun _ => ⟨by omega, by omega⟩, fun _ => rfl⟩; have PI := fun (W : World) (u : Value) (h : IsO W u O) => plis_is (b := false) hV hi W h ⟨fun h => (Bool.false_ne_true h).elim, fun h => absurd h hil⟩; clear hi hil
  have HO := Lib.hid h1
  obtain ⟨v1, v2, rfl, g1, g2⟩ := id h1
  obtain ⟨a1, c1, rfl, hr1⟩ := id g1; obtain ⟨a2, c2, rfl, hr2⟩ := id g2
  have m1 := hr1.most; have r1 := hr1.room; have m2 := hr2.most; have r2 := hr2.room; have H1 := Lib.hid g1; have H2 := Lib.hid g2
  clear hr1 hr2 g1 g2 h1
  have BI := fun W => build_od0 W; have SA := Lib.hid (size_od (.slice a1 O.pv.length c1) (.slice a2 O.nx.length c2) (.int .i64 O.hd) (.int .i64 O.tl))
  go_enter Try.func14, Try.ntmps14
  go_upto_region 1 with fail
  refine F_gen (F := fun W => Code.wp _ _ _ _ W) (J := fun W => Box W (w.heap.size) ([.slice a1 O.pv.length c1, .slice a2 O.nx.length c2, .int .i64 O.hd, .int .i64 O.tl]) ∧ Box W (w.heap.size + 1) (od0) ∧ Below w.heap.size w W) (And.intro (Box.alloc (Box.newc rfl rfl) _) (And.intro (Box.newc rfl (by simp)) (by go_grown))) ?_
  intro w0 ⟨e_a, e_r, hB0⟩
  have hs0 := hB0.size
  have x_a0 := e_a; clear e_a
  have x_r0 := e_r; clear e_r
  go_wp2_with (refine wpList_load_box9 rfl _ _ rfl x_a0 rfl Try.underlying24 rfl SA.out ?_)
  refine (CK _ _ (HO.out.below hB0)).mono ?_
  rintro e w1 ⟨rfl, hb⟩
  have hB1 : Below w.heap.size w w1 := below_thru hB0 hb
  have hs1 := hB1.size
  have x_a1 : Box w1 (w.heap.size) ([.slice a1 O.pv.length c1, .slice a2 O.nx.length c2, .int .i64 O.hd, .int .i64 O.tl]) := Box.below x_a0 hb
  have x_r1 : Box w1 (w.heap.size + 1) (od0) := Box.below x_r0 hb
  clear hB0 hs0 x_a0 x_r0
  clear hb
  go_wp2_with (refine wpList_load_box9 rfl _ _ rfl x_a1 rfl Try.underlying24 rfl SA.out ?_)
  refine (PL _ _ (HO.out.below hB1)).mono ?_
  rintro e w2 ⟨rfl, hb⟩
  have hB2 : Below w.heap.size w w2 := below_thru hB1 hb
  have hs2 := hB2.size
  have x_a2 : Box w2 (w.heap.size) ([.slice a1 O.pv.length c1, .slice a2 O.nx.length c2, .int .i64 O.hd, .int .i64 O.tl]) := Box.below x_a1 hb
  have x_r2 : Box w2 (w.heap.size + 1) (od0) := Box.below x_r1 hb
  clear hB1 hs1 x_a1 x_r1
  clear hb
  go_wp2_with (refine wpList_load_box9 rfl _ _ rfl x_a2 rfl Try.underlying24 rfl SA.out ?_)
  refine (PI _ _ (HO.out.below hB2)).mono ?_
  rintro e w3 ⟨rfl, hb⟩
  have hB3 : Below w.heap.size w w3 := below_thru hB2 hb
  have hs3 := hB3.size
  have x_a3 : Box w3 (w.heap.size) ([.slice a1 O.pv.length c1, .slice a2 O.nx.length c2, .int .i64 O.hd, .int .i64 O.tl]) := Box.below x_a2 hb
  have x_r3 : Box w3 (w.heap.size + 1) (od0) := Box.below x_r2 hb
  clear hB2 hs2 x_a2 x_r2
  clear hb
  have lq := (x_r3).lt
  go_wp2_with (first | (refine wpList_build9 rfl 24 _ rfl (us := #[]) (by rfl) (BI _) ?_) | (refine wpList_store_box (cs := od0) rfl _ _ _ rfl x_r3 rfl rfl size_od0 rfl one_od0 ?_; intro W99 hW99))
  exact bodyPost_ret (results_box2 Try.results14 hW99.box rfl rfl Try.underlying24 rfl size_od0) rfl ⟨_, rfl, isO_zero _, freshO_zero _, hW99.below _ _ (by omega) hB3⟩

set_option maxRecDepth 100000 in
set_option maxHeartbeats 6400000 in
theorem plrm_d {v : Value} {O : Od} {l : List Nat} {i : Nat} (hV : VO O l) (hi : i < O.pv.length) (hil : i ∈ l) (w : World) (h1 : IsO w v O) : Calls Try.prog 14 #[v, .int .i64 (i : Int)] w fun e w' => ∃ v, e = .returned (.tuple #[v, .int .i64 0]) ∧ ResO (ofL O.pv.length (woO l i)) w v w' := by
  have CK := fun (W : World) (u : Value) (hu9 : IsO W u O) => plchk_is W hu9 (ChkO.good hV)
  have PL := fun (W : World) (u : Value) (h : IsO W u O) => plpl_is (p := (i : Int)) (b := true) W h ⟨fun _ => ⟨by omega, by omega⟩, fun _ => rfl⟩; have PI := fun (W : World) (u : Value) (h : IsO W u O) => plis_is (b := true) hV hi W h ⟨fun _ => hil, fun _ => rfl⟩
  have CP := fun (W : World) (u : Value) (h : IsO W u O) => plcop_is W h ⟨by have := hV.most; omega, by have := hV.most; have := hV.len; omega⟩
  have hu := hV.len; have hp := hV.pos; have hlt := hV.lt
  have HO := Lib.hid h1
  obtain ⟨v1, v2, rfl, g1, g2⟩ := id h1
  obtain ⟨a1, c1, rfl, hr1⟩ := id g1; obtain ⟨a2, c2, rfl, hr2⟩ := id g2
  have m1 := hr1.most; have r1 := hr1.room; have m2 := hr2.most; have r2 := hr2.room; have H1 := Lib.hid g1; have H2 := Lib.hid g2
  clear hr1 hr2 g1 g2 h1
  obtain ⟨n, hn⟩ : ∃ n, O.pv.length = n := ⟨_, rfl⟩
  rw [hu] at r2 H2 HO ⊢; rw [hn] at hu r1 H1 HO hi hp hlt ⊢
  have HN := Lib.hid hn; have HU := Lib.hid hu; clear hn hu
  have HP := Lib.hid (show O.pv = (ofL n l).pv by rw [← HN.out]; exact congrArg Od.pv hV.eq); have HX := Lib.hid (show O.nx = (ofL n l).nx by rw [← HN.out]; exact congrArg Od.nx hV.eq); have HH := Lib.hid hV.hd; have HT := Lib.hid hV.tl; have hnd := hV.nodup
  have SA := Lib.hid (size_od (.slice a1 n c1) (.slice a2 n c2) (.int .i64 O.hd) (.int .i64 O.tl)); have HLT := Lib.hid hlt; have HIL := Lib.hid hil; have HND := Lib.hid hnd; have HI := Lib.hid hi; clear hV hil hlt hnd
  go_enter Try.func14, Try.ntmps14
  go_upto_region 1 with fail
  refine F_gen (F := fun W => Code.wp _ _ _ _ W) (J := fun W => Box W (w.heap.size) ([.slice a1 n c1, .slice a2 n c2, .int .i64 O.hd, .int .i64 O.tl]) ∧ Box W (w.heap.size + 1) (od0) ∧ Below w.heap.size w W) (And.intro (Box.alloc (Box.newc rfl rfl) _) (And.intro (Box.newc rfl (by simp)) (by go_grown))) ?_
  intro w0 ⟨e_a, e_r, hB0⟩
  have hs0 := hB0.size
  have x_a0 := e_a; clear e_a
  have x_r0 := e_r; clear e_r
  go_wp2_with (refine wpList_load_box9 rfl _ _ rfl x_a0 rfl Try.underlying24 rfl SA.out ?_)
  refine (CK _ _ (HO.out.below hB0)).mono ?_
  rintro e w1 ⟨rfl, hb⟩
  have hB1 : Below w.heap.size w w1 := below_thru hB0 hb
  have hs1 := hB1.size
  have x_a1 : Box w1 (w.heap.size) ([.slice a1 n c1, .slice a2 n c2, .int .i64 O.hd, .int .i64 O.tl]) := Box.below x_a0 hb
  have x_r1 : Box w1 (w.heap.size + 1) (od0) := Box.below x_r0 hb
  clear hB0 hs0 x_a0 x_r0
  clear hb
  go_wp2_with (refine wpList_load_box9 rfl _ _ rfl x_a1 rfl Try.underlying24 rfl SA.out ?_)
  refine (PL _ _ (HO.out.below hB1)).mono ?_
  rintro e w2 ⟨rfl, hb⟩
  have hB2 : Below w.heap.size w w2 := below_thru hB1 hb
  have hs2 := hB2.size
  have x_a2 : Box w2 (w.heap.size) ([.slice a1 n c1, .slice a2 n c2, .int .i64 O.hd, .int .i64 O.tl]) := Box.below x_a1 hb
  have x_r2 : Box w2 (w.heap.size + 1) (od0) := Box.below x_r1 hb
  clear hB1 hs1 x_a1 x_r1
  clear hb
  go_wp2_with (refine wpList_load_box9 rfl _ _ rfl x_a2 rfl Try.underlying24 rfl SA.out ?_)
  refine (PI _ _ (HO.out.below hB2)).mono ?_
  rintro e w3 ⟨rfl, hb⟩
  have hB3 : Below w.heap.size w w3 := below_thru hB2 hb
  have hs3 := hB3.size
  have x_a3 : Box w3 (w.heap.size) ([.slice a1 n c1, .slice a2 n c2, .int .i64 O.hd, .int .i64 O.tl]) := Box.below x_a2 hb
  have x_r3 : Box w3 (w.heap.size + 1) (od0) := Box.below x_r2 hb
  clear hB2 hs2 x_a2 x_r2
  clear hb
  go_wp2_with (refine wpList_load_box9 rfl _ _ rfl x_a3 rfl Try.underlying24 rfl SA.out ?_)
  refine (CP _ _ (HO.out.below hB3)).mono ?_
  rintro e w5 ⟨va, vb, rfl, oa, ob, ap, hb⟩
  rw [HN.out, HP.out] at oa; rw [HU.out, HX.out] at ob
  obtain ⟨g, c, h, d, rfl, rfl, lg, lh, gh, hc, hd, xg, xh⟩ := own_order oa ob ap (by omega)
  have kg : w.heap.size + 2 ≤ g := by have := (x_r3).lt; omega
  have kh : w.heap.size + 2 ≤ h := by have := (x_r3).lt; omega
  clear oa ob ap
  have hB4 : Below w.heap.size w w5 := below_thru hB3 hb
  have hs4 := hB4.size
  have x_a4 : Box w5 (w.heap.size) ([.slice a1 n c1, .slice a2 n c2, .int .i64 O.hd, .int .i64 O.tl]) := Box.below x_a3 hb
  have x_r4 : Box w5 (w.heap.size + 1) (od0) := Box.below x_r3 hb
  clear hB3 hs3 x_a3 x_r3
  clear hb lg lh CK PL PI CP
  rw [HH.out, HT.out]
  have x_g4 : Box w5 g (((ofL n l).pv).map (Value.int .i64)) := xg; have x_h4 : Box w5 h (((ofL n l).nx).map (Value.int .i64)) := xh; clear xg xh
  have lr_a := (x_a4).lt
  have lr_r := (x_r4).lt
  have lr_g := (x_g4).lt
  have lr_h := (x_h4).lt
  go_upto_region 9 with (refine wpList_store_box (cs := [.slice (some ⟨g, 0, none⟩) n c, .slice (some ⟨h, 0, none⟩) n d, .int .i64 (hdO l), .int .i64 (lstO (-1) l)]) rfl _ _ _ rfl x_a4 rfl rfl (size_od _ _ _ _) rfl (one_od _ _ _ _ _ _ _ _) ?_; intro W85 hW85)
  have x_r5 : Box W85 (w.heap.size + 1) (od0) := hW85.past _ _ (by omega) x_r4
  have x_g5 : Box W85 (g) (((ofL n l).pv).map (Value.int .i64)) := hW85.past _ _ (by omega) x_g4
  have x_h5 : Box W85 (h) (((ofL n l).nx).map (Value.int .i64)) := hW85.past _ _ (by omega) x_h4
  have x_a5 : Box W85 (w.heap.size) ([.slice (some ⟨g, 0, none⟩) n c, .slice (some ⟨h, 0, none⟩) n d, .int .i64 (hdO l), .int .i64 (lstO (-1) l)]) := hW85.box
  have hB5 : Below w.heap.size w W85 := hW85.below _ _ (by omega) hB4; have hs5 := hB5.size
  clear hW85 hB4 hs4 x_a4 x_r4 x_g4 x_h4 lr_a lr_r lr_g lr_h  
  go_wp2_with fail
  refine (ptko_is (v0 := w) (b := w.heap.size) (g := g) (h := h) (r := w.heap.size + 1) (l := l) (Nat.le_refl _) (by omega) (by omega) (by omega) (by omega) gh (by omega) (by omega) (by omega) HND.out HLT.out HIL.out _ hB5 x_a5 x_g5 x_h5 x_r5).mono ?_
  rintro e w26 ⟨rfl, xa, xg, xh, xr, hb⟩
  clear x_a5 x_g5 x_h5 x_r5 hB5 hs5
  have x_a6 := xa; have x_g6 := xg; have x_h6 := xh; have x_r6 := xr; have hB6 := hb; have hs6 := hB6.size; clear xa xg xh xr hb
  have lq := (x_r6).lt; have lqa := (x_a6).lt
  go_wp2_with (first | (refine wpList_load_box9 rfl _ _ rfl x_a6 rfl Try.underlying24 rfl (size_od _ _ _ _) ?_) | (refine wpList_store_box (cs := [.slice (some ⟨g, 0, none⟩) n c, .slice (some ⟨h, 0, none⟩) n d, .int .i64 (hdO (woO l i)), .int .i64 (lstO (-1) (woO l i))]) rfl _ _ _ rfl x_r6 rfl rfl (size_od _ _ _ _) rfl (one_od _ _ _ _ _ _ _ _) ?_; intro W99 hW99))
  have yg := hW99.past _ _ (by omega) x_g6; have yh := hW99.past _ _ (by omega) x_h6
  exact bodyPost_ret (results_box2 Try.results14 hW99.box rfl rfl Try.underlying24 rfl (size_od _ _ _ _)) rfl ⟨_, rfl, IsO.boxes (O := (ofL n (woO l i))) yg yh rfl rfl (ofL_pv _ _) (ofL_nx _ _) hc hd, freshO_boxes (by omega) (by omega), hW99.below _ _ (by omega) hB6⟩

theorem plremove_is {v : Value} {O R : Od} {p q : Int} (h : RmO O p R q) (w : World) (h1 : IsO w v O) : Calls Try.prog 14 #[v, .int .i64 p] w fun e w' => ∃ v, e = .returned (.tuple #[v, .int .i64 q]) ∧ ResO R w v w' := by
  rcases h with ⟨rfl, h, rfl⟩ | ⟨l, hV, ⟨rfl, hp, rfl⟩ | ⟨i, rfl, hi, ⟨rfl, hil, rfl⟩ | ⟨rfl, hil, rfl⟩⟩⟩
  · exact plrm_a h w h1
  · exact plrm_b hV hp w h1
  · exact plrm_c hV hi hil w h1
  · exact plrm_d hV hi hil w h1


end Go.Proofs.Ytjhlpkkefdohjaa
