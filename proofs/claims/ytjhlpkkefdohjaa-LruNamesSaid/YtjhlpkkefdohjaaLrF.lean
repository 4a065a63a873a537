/-
  Package lru, walked: Last, List.
-/
import Derived.Test.YtjhlpkkefdohjaaLrE
namespace Go.Proofs.Ytjhlpkkefdohjaa
open Go.RowKit

set_option maxRecDepth 100000 in
set_option maxHeartbeats 6400000 in
theorem pllast_a {v : Value} {O : Od} (h : ∀ l, ¬ VO O l) (w : World) (h1 : IsO w v O) : Calls Try.prog 17 #[v] w fun e w' => e = .returned (.tuple #[.int .i64 0, .int .i64 8]) ∧ Below w.heap.size w w' := by
  have CK := fun (W : World) (u : Value) (hu9 : IsO W u O) => plchk_is W hu9 (ChkO.bad h)
  have HO := Lib.hid h1
  obtain ⟨v1, v2, rfl, g1, g2⟩ := id h1
  obtain ⟨a1, c1, rfl, hr1⟩ := id g1; obtain ⟨a2, c2, rfl, hr2⟩ := id g2
  have m1 := hr1.most; have r1 := hr1.room; have m2 := hr2.most; have r2 := hr2.room; have H1 := Lib.hid g1; have H2 := Lib.hid g2
  clear hr1 hr2 g1 g2 h1
  have SA := Lib.hid (size_od (.slice a1 O.pv.length c1) (.slice a2 O.nx.length c2) (.int .i64 O.hd) (.int .i64 O.tl))
  go_enter Try.func17, Try.ntmps17
  go_upto_region 1 with fail
  refine F_gen (F := fun W => Code.wp _ _ _ _ W) (J := fun W => Box W (w.heap.size) ([.slice a1 O.pv.length c1, .slice a2 O.nx.length c2, .int .i64 O.hd, .int .i64 O.tl]) ∧ Below w.heap.size w W) (And.intro (Box.newc rfl rfl) (by go_grown)) ?_
  intro w0 ⟨e_a, hB0⟩
  have hs0 := hB0.size
  have x_a0 := e_a; clear e_a
  go_wp2_with (refine wpList_load_box9 rfl _ _ rfl x_a0 rfl Try.underlying24 rfl SA.out ?_)
  refine (CK _ _ (HO.out.below hB0)).mono ?_
  rintro e w1 ⟨rfl, hb⟩
  have hB1 : Below w.heap.size w w1 := below_thru hB0 hb
  have hs1 := hB1.size
  have x_a1 : Box w1 (w.heap.size) ([.slice a1 O.pv.length c1, .slice a2 O.nx.length c2, .int .i64 O.hd, .int .i64 O.tl]) := Box.below x_a0 hb
  clear hB0 hs0 x_a0
  clear hb
  go_wp2_with fail
  go_returns
  exact ⟨rfl, hB1⟩

set_option maxRecDepth 100000 in
set_option maxHeartbeats 6400000 in
theorem pllast_b {v : Value} {O : Od} {l : List Nat} (hV : VO O l) (hl : l = []) (w : World) (h1 : IsO w v O) : Calls Try.prog 17 #[v] w fun e w' => e = .returned (.tuple #[.int .i64 0, .int .i64 6]) ∧ Below w.heap.size w w' := by
  have CK := fun (W : World) (u : Value) (hu9 : IsO W u O) => plchk_is W hu9 (ChkO.good hV)
  have d0 : (O.tl == -1) = true := by rw [hV.tl, hl]; rfl
  have HT := Lib.hid hV.tl; clear hl
  have HO := Lib.hid h1
  obtain ⟨v1, v2, rfl, g1, g2⟩ := id h1
  obtain ⟨a1, c1, rfl, hr1⟩ := id g1; obtain ⟨a2, c2, rfl, hr2⟩ := id g2
  have m1 := hr1.most; have r1 := hr1.room; have m2 := hr2.most; have r2 := hr2.room; have H1 := Lib.hid g1; have H2 := Lib.hid g2
  clear hr1 hr2 g1 g2 h1
  have SA := Lib.hid (size_od (.slice a1 O.pv.length c1) (.slice a2 O.nx.length c2) (.int .i64 O.hd) (.int .i64 O.tl))
  go_enter Try.func17, Try.ntmps17
  go_upto_region 1 with fail
  refine F_gen (F := fun W => Code.wp _ _ _ _ W) (J := fun W => Box W (w.heap.size) ([.slice a1 O.pv.length c1, .slice a2 O.nx.length c2, .int .i64 O.hd, .int .i64 O.tl]) ∧ Below w.heap.size w W) (And.intro (Box.newc rfl rfl) (by go_grown)) ?_
  intro w0 ⟨e_a, hB0⟩
  have hs0 := hB0.size
  have x_a0 := e_a; clear e_a
  go_wp2_with (refine wpList_load_box9 rfl _ _ rfl x_a0 rfl Try.underlying24 rfl SA.out ?_)
  refine (CK _ _ (HO.out.below hB0)).mono ?_
  rintro e w1 ⟨rfl, hb⟩
  have hB1 : Below w.heap.size w w1 := below_thru hB0 hb
  have hs1 := hB1.size
  have x_a1 : Box w1 (w.heap.size) ([.slice a1 O.pv.length c1, .slice a2 O.nx.length c2, .int .i64 O.hd, .int .i64 O.tl]) := Box.below x_a0 hb
  clear hB0 hs0 x_a0
  clear hb
  have ca := (x_a1).c 3 _ rfl
  have za := (x_a1).lt
  go_wp2_with fail
  go_returns
  exact ⟨rfl, hB1⟩

set_option maxRecDepth 100000 in
set_option maxHeartbeats 6400000 in
theorem pllast_c {v : Value} {O : Od} {l : List Nat} (hV : VO O l) (hl : l ≠ []) (w : World) (h1 : IsO w v O) : Calls Try.prog 17 #[v] w fun e w' => e = .returned (.tuple #[.int .i64 (lstO (-1) l), .int .i64 0]) ∧ Below w.heap.size w w' := by
  have CK := fun (W : World) (u : Value) (hu9 : IsO W u O) => plchk_is W hu9 (ChkO.good hV)
  have d0 : (O.tl == -1) = false := by rw [beq_eq_false_iff_ne, hV.tl]; exact fun q => hl (lstO_none.1 q)
  have HT := Lib.hid hV.tl; clear hl
  rw [← HT.out]
  have HO := Lib.hid h1
  obtain ⟨v1, v2, rfl, g1, g2⟩ := id h1
  obtain ⟨a1, c1, rfl, hr1⟩ := id g1; obtain ⟨a2, c2, rfl, hr2⟩ := id g2
  have m1 := hr1.most; have r1 := hr1.room; have m2 := hr2.most; have r2 := hr2.room; have H1 := Lib.hid g1; have H2 := Lib.hid g2
  clear hr1 hr2 g1 g2 h1
  have SA := Lib.hid (size_od (.slice a1 O.pv.length c1) (.slice a2 O.nx.length c2) (.int .i64 O.hd) (.int .i64 O.tl))
  go_enter Try.func17, Try.ntmps17
  go_upto_region 1 with fail
  refine F_gen (F := fun W => Code.wp _ _ _ _ W) (J := fun W => Box W (w.heap.size) ([.slice a1 O.pv.length c1, .slice a2 O.nx.length c2, .int .i64 O.hd, .int .i64 O.tl]) ∧ Below w.heap.size w W) (And.intro (Box.newc rfl rfl) (by go_grown)) ?_
  intro w0 ⟨e_a, hB0⟩
  have hs0 := hB0.size
  have x_a0 := e_a; clear e_a
  go_wp2_with (refine wpList_load_box9 rfl _ _ rfl x_a0 rfl Try.underlying24 rfl SA.out ?_)
  refine (CK _ _ (HO.out.below hB0)).mono ?_
  rintro e w1 ⟨rfl, hb⟩
  have hB1 : Below w.heap.size w w1 := below_thru hB0 hb
  have hs1 := hB1.size
  have x_a1 : Box w1 (w.heap.size) ([.slice a1 O.pv.length c1, .slice a2 O.nx.length c2, .int .i64 O.hd, .int .i64 O.tl]) := Box.below x_a0 hb
  clear hB0 hs0 x_a0
  clear hb
  have ca := (x_a1).c 3 _ rfl
  have za := (x_a1).lt
  go_wp2_with fail
  go_returns
  exact ⟨rfl, hB1⟩

theorem pllast_is {v : Value} {O : Od} {p q : Int} (h : LaO O p q) (w : World) (h1 : IsO w v O) : Calls Try.prog 17 #[v] w fun e w' => e = .returned (.tuple #[.int .i64 p, .int .i64 q]) ∧ Below w.heap.size w w' := by
  rcases h with ⟨rfl, h, rfl⟩ | ⟨l, hV, ⟨rfl, hl, rfl⟩ | ⟨rfl, hl, rfl⟩⟩
  · exact pllast_a h w h1
  · exact pllast_b hV hl w h1
  · exact pllast_c hV hl w h1

set_option maxRecDepth 100000 in
set_option maxHeartbeats 6400000 in
theorem pllist_a {v : Value} {O : Od} (h : ∀ l, ¬ VO O l) (w : World) (h1 : IsO w v O) : Calls Try.prog 19 #[v] w fun e w' => ∃ u, e = .returned (.tuple #[u, .int .i64 8]) ∧ IsR LI w' u (nums []) ∧ (∀ k, u.ownBlock = some k → w.heap.size ≤ k) ∧ Below w.heap.size w w' := by
  have CK := fun (W : World) (u : Value) (hu9 : IsO W u O) => plchk_is W hu9 (ChkO.bad h)
  have HO := Lib.hid h1
  obtain ⟨v1, v2, rfl, g1, g2⟩ := id h1
  obtain ⟨a1, c1, rfl, hr1⟩ := id g1; obtain ⟨a2, c2, rfl, hr2⟩ := id g2
  have m1 := hr1.most; have r1 := hr1.room; have m2 := hr2.most; have r2 := hr2.room; have H1 := Lib.hid g1; have H2 := Lib.hid g2
  clear hr1 hr2 g1 g2 h1
  have SA := Lib.hid (size_od (.slice a1 O.pv.length c1) (.slice a2 O.nx.length c2) (.int .i64 O.hd) (.int .i64 O.tl))
  go_enter Try.func19, Try.ntmps19
  go_upto_region 1 with fail
  refine F_gen (F := fun W => Code.wp _ _ _ _ W) (J := fun W => Box W (w.heap.size) ([.slice a1 O.pv.length c1, .slice a2 O.nx.length c2, .int .i64 O.hd, .int .i64 O.tl]) ∧ Below w.heap.size w W) (And.intro (Box.newc rfl rfl) (by go_grown)) ?_
  intro w0 ⟨e_a, hB0⟩
  have hs0 := hB0.size
  have x_a0 := e_a; clear e_a
  go_wp2_with (refine wpList_load_box9 rfl _ _ rfl x_a0 rfl Try.underlying24 rfl SA.out ?_)
  refine (CK _ _ (HO.out.below hB0)).mono ?_
  rintro e w1 ⟨rfl, hb⟩
  have hB1 : Below w.heap.size w w1 := below_thru hB0 hb
  have hs1 := hB1.size
  have x_a1 : Box w1 (w.heap.size) ([.slice a1 O.pv.length c1, .slice a2 O.nx.length c2, .int .i64 O.hd, .int .i64 O.tl]) := Box.below x_a0 hb
  clear hB0 hs0 x_a0
  clear hb
  go_wp2_with fail
  go_returns
  exact ⟨_, rfl, IsR.none, none_own _, hB1⟩

set_option maxRecDepth 100000 in
set_option maxHeartbeats 6400000 in
theorem pllist_b {v : Value} {O : Od} {l : List Nat} (hV : VO O l) (w : World) (h1 : IsO w v O) : Calls Try.prog 19 #[v] w fun e w' => ∃ u, e = .returned (.tuple #[u, .int .i64 0]) ∧ IsR LI w' u (nums l) ∧ (∀ k, u.ownBlock = some k → w.heap.size ≤ k) ∧ Below w.heap.size w w' := by
  have CK := fun (W : World) (u : Value) (hu9 : IsO W u O) => plchk_is W hu9 (ChkO.good hV)
  have hu := hV.len; have hm := hV.most; have hle := hV.le
  have HO := Lib.hid h1
  obtain ⟨v1, v2, rfl, g1, g2⟩ := id h1
  obtain ⟨a1, c1, rfl, hr1⟩ := id g1; obtain ⟨a2, c2, rfl, hr2⟩ := id g2
  have m1 := hr1.most; have r1 := hr1.room; have m2 := hr2.most; have r2 := hr2.room; have H1 := Lib.hid g1; have H2 := Lib.hid g2
  clear hr1 hr2 g1 g2 h1
  obtain ⟨n, hn⟩ : ∃ n, O.pv.length = n := ⟨_, rfl⟩
  rw [hu] at r2 H2 HO ⊢; rw [hn] at hu r1 H1 HO hm hle ⊢
  have HN := Lib.hid hn; have HU := Lib.hid hu; clear hn hu
  have HV := Lib.hid hV; have HH := Lib.hid hV.hd; clear hV; have SA := Lib.hid (size_od (.slice a1 n c1) (.slice a2 n c2) (.int .i64 O.hd) (.int .i64 O.tl)); obtain ⟨ti, hin, hz0, hz1, hz2⟩ := info_parts info_in
  go_enter Try.func19, Try.ntmps19
  go_upto_region 1 with fail
  refine F_gen (F := fun W => Code.wp _ _ _ _ W) (J := fun W => Box W (w.heap.size) ([.slice a1 n c1, .slice a2 n c2, .int .i64 O.hd, .int .i64 O.tl]) ∧ Below w.heap.size w W) (And.intro (Box.newc rfl rfl) (by go_grown)) ?_
  intro w0 ⟨e_a, hB0⟩
  have hs0 := hB0.size
  have x_a0 := e_a; clear e_a
  go_wp2_with (refine wpList_load_box9 rfl _ _ rfl x_a0 rfl Try.underlying24 rfl SA.out ?_)
  refine (CK _ _ (HO.out.below hB0)).mono ?_
  rintro e w1 ⟨rfl, hb⟩
  have hB1 : Below w.heap.size w w1 := below_thru hB0 hb
  have hs1 := hB1.size
  have x_a1 : Box w1 (w.heap.size) ([.slice a1 n c1, .slice a2 n c2, .int .i64 O.hd, .int .i64 O.tl]) := Box.below x_a0 hb
  clear hB0 hs0 x_a0
  clear hb
  have ca := (x_a1).c 2 _ rfl
  have za := (x_a1).lt
  rw [HH.out] at ca
  have lo := (x_a1).lt
  go_wp2_with fail
  clear ca za
  go_loopg [5, 6] l.length (fun k p5 p6 wr => ∃ a b : List Nat, l = a ++ b ∧ k = b.length ∧ p6 = .int .i64 (hdO b) ∧ Hid (wr.ownsRow (w.heap.size + 1) 3 1 p5 a.length (flatR LI (nums a))) ∧ Box wr w.heap.size [.slice a1 n c1, .slice a2 n c2, .int .i64 O.hd, .int .i64 O.tl] ∧ Below w.heap.size w wr)
  case atStart => exact ⟨[], l, rfl, rfl, rfl, Lib.hid ownR_none, x_a1, hB1⟩
  case round =>
    clear x_a1 hB1 hs1 lo
    obtain ⟨a, b, hl, rfl, rfl, HO2, x_a, hB⟩ := hrel
    have hs := hB.size
    obtain ⟨pa, pc, rfl⟩ := own_slR HO2.out
    have HLn := Lib.hid (show a.length ≤ n by rw [hl, List.length_append] at hle; omega)
    cases b with
    | nil =>
      have HX := Lib.hid (show l = a by rw [hl, List.append_nil]); have HI : Hid (IsR LI wr (.slice pa a.length pc) (nums a)) := Lib.hid (IsR.own HO2.out rfl (nums_len a).symm); have HK := Lib.hid (ownR_block HO2.out); have D1 : hdO [] = -1 := rfl; rw [D1]; clear HO2 hl D1 hle
      go_wp2_with fail
      go_returns
      rw [HX.out]
      exact ⟨_, rfl, HI.out, (fun q e => by have := HK.out q e; omega), hB⟩
    | cons i b =>
      have hin_ : i < n := by have := HV.out.lt i (by rw [hl]; simp); rw [HN.out] at this; exact this
      have D1 : hdO (i :: b) = (i : Int) := rfl
      rw [D1]
      have d0 : ((i : Int) != -1) = true := by rw [bne_iff_ne]; omega
      have hx : O.nx[i]? = some (hdO b) := by
        have h2 := HV.out.nx (i := i) (by rw [HN.out]; exact hin_)
        have hnd := HV.out.nodup
        rw [hl] at h2 hnd
        rw [nxtO_mid (fun q => (List.nodup_append.1 hnd).2.2 i q i List.mem_cons_self rfl)] at h2
        exact h2
      obtain ⟨b1, o1, rfl, e1⟩ := H2.out.getI hx
      have E1 := Lib.hid e1; have ltz := x_a.lt
      have HL2 := Lib.hid (show l = (a ++ [i]) ++ b by rw [hl]; simp)
      obtain ⟨nx, hnx⟩ : ∃ x, hdO b = x := ⟨_, rfl⟩; rw [hnx] at E1; have HNX := Lib.hid hnx
      have i0 : (0 : Int) ≤ (i : Int) := (by omega); have i1 : (i : Int) < (n : Int) := (by omega); clear e1 hx D1 hl hnx hle hin_
      have LX : IsR LI (wr.alloc (.cells #[.int .i64 (i : Int)] 3)) (.slice (some ⟨wr.heap.size, 0, none⟩) 1 1) [(i : Int)] := IsR.built [(i : Int)] rfl rfl rfl rfl (show 1 ≤ 1000 by decide)
      have LO := ownR_below HO2.out ((Below.refl _ _).alloc (Nat.le_refl _) (.cells #[.int .i64 (i : Int)] 3))
      go_upto_region 7 with (at_builtin; refine wpList_append_rows rfl LI _ _ 22 rfl (w.heap.size + 1) 3 ti (.int .i64 0) 1 8 rfl Try.underlying22 hin hz0 hz1 hz2 rfl _ a.length _ rfl LO _ [(i : Int)] rfl LX (by have := HLn.out; unfold maxLen; simp; omega) (by have := HLn.out; simp; omega) (by simp; omega) ?_; intro v40 w40 own4 gr4)
      have hKB := (Below.refl (w.heap.size + 1) _).grown gr4 (by simp; omega) (ownR_block LO)
      have x_a3 : Box w40 w.heap.size _ := Box.keep12 (x_a.alloc (.cells #[.int .i64 (i : Int)] 3)) hKB (by omega)
      have hB3 : Below w.heap.size w w40 := (hB.alloc (by omega) (.cells #[.int .i64 (i : Int)] 3)).trans (hKB.mono (by omega))
      have HO3 : Hid (w40.ownsRow (w.heap.size + 1) 3 1 v40 (a ++ [i]).length (flatR LI (nums (a ++ [i])))) := Lib.hid (by
        rw [nums_snoc, flatR_app, List.length_append]
        exact own4)
      clear own4 gr4 hKB LO LX HO2 x_a hB hs ltz d0
      have hs3 := hB3.size
      have f1 := cell_below hB3 E1.out; have z1 := lt_of_cell f1; have ca := x_a3.c 1 _ rfl; have za := x_a3.lt
      have HG := Lib.hid (show b.length < (i :: b).length by simp)
      go_wp2_with fail
      go_roundg b.length
      case measure => exact HG.out
      case rel => exact ⟨a ++ [i], b, HL2.out, rfl, by rw [HNX.out], HO3, x_a3, hB3⟩

theorem pllist_is {v : Value} {O : Od} {m : List Nat} {q : Int} (h : LiO O m q) (w : World) (h1 : IsO w v O) : Calls Try.prog 19 #[v] w fun e w' => ∃ u, e = .returned (.tuple #[u, .int .i64 q]) ∧ IsR LI w' u (nums m) ∧ (∀ k, u.ownBlock = some k → w.heap.size ≤ k) ∧ Below w.heap.size w w' := by
  rcases h with ⟨rfl, h, rfl⟩ | ⟨rfl, h⟩
  · exact pllist_a h w h1
  · exact pllist_b h w h1


end Go.Proofs.Ytjhlpkkefdohjaa
