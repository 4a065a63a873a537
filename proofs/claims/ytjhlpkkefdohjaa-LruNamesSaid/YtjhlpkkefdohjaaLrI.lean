/-
  The reference of layer 15, walked: Without, Check, Place, New.
-/
import Derived.Test.YtjhlpkkefdohjaaLrH
namespace Go.Proofs.Ytjhlpkkefdohjaa
open Go.RowKit

theorem isR_storedO {α : Type} {L : Lay α} {w W : World} {b : Nat} {vs : List Value} {v : Value} {xs : List α} (hs : Stored w b vs W) (h : IsR L w v xs) (ho : v.ownBlock ≠ some b) : IsR L W v xs := by
  obtain ⟨a, c, rfl, hi⟩ := h
  refine ⟨a, c, rfl, hi.room, hi.most, fun h0 => ?_, hi.nil⟩
  obtain ⟨b0, off, rfl, hc⟩ := hi.cells h0
  exact ⟨b0, off, rfl, fun i x hx j u hu => hs.cell _ _ _ (fun e => ho (by rw [e]; rfl)) (hc i x hx j u hu)⟩
/-- No row of the order lies in block b. -/
def OffO (b : Nat) (v : Value) : Prop := ∃ x y z u, v = .agg #[x, y, z, u] ∧ x.ownBlock ≠ some b ∧ y.ownBlock ≠ some b
theorem FreshO.off {n b : Nat} {v : Value} (h : FreshO n v) (hb : b < n) : OffO b v := by
  obtain ⟨x, y, z, u, rfl, h1, h2⟩ := h
  exact ⟨x, y, z, u, rfl, fun e => by have := h1 b e; omega, fun e => by have := h2 b e; omega⟩
theorem IsO.stored {w W : World} {b : Nat} {vs : List Value} {v : Value} {O : Od} (hs : Stored w b vs W) (h : IsO w v O) (ho : OffO b v) : IsO W v O := by
  obtain ⟨x, y, rfl, h1, h2⟩ := h
  obtain ⟨x', y', z', u', e, o1, o2⟩ := ho
  cases e
  exact ⟨x, y, rfl, isR_storedO hs h1 o1, isR_storedO hs h2 o2⟩
theorem FreshO.base {n m : Nat} {v : Value} (h : FreshO n v) (hm : m ≤ n) : FreshO m v := by
  obtain ⟨x, y, z, u, rfl, h1, h2⟩ := h
  exact ⟨x, y, z, u, rfl, fun k e => Nat.le_trans hm (h1 k e), fun k e => Nat.le_trans hm (h2 k e)⟩
theorem woO_snoc (l : List Nat) (x i : Nat) : woO (l ++ [x]) i = if x = i then woO l i else woO l i ++ [x] := by
  unfold woO
  rw [List.filter_append]
  by_cases h : x = i
  · subst h
    simp
  · rw [if_neg h, List.filter_cons_of_pos (by simp [h])]
    rfl
theorem woO_le (l : List Nat) (i : Nat) : (woO l i).length ≤ l.length := List.length_filter_le _ _
theorem take_snocW {l : List Nat} {k x : Nat} (h : l[k]? = some x) : l.take (k + 1) = l.take k ++ [x] := by rw [List.take_add_one, h]; rfl

set_option maxRecDepth 100000 in
set_option maxHeartbeats 6400000 in
theorem rlwo_is {v : Value} {l : List Nat} {i : Nat} (hl : l.length ≤ 200) (w : World) (hv : IsR LI w v (nums l)) : Calls Try.prog 27 #[v, .int .i64 (i : Int)] w fun e w' => ∃ u, e = .returned u ∧ w'.ownsRow w.heap.size 3 1 u (woO l i).length (flatR LI (nums (woO l i))) ∧ Below w.heap.size w w' := by
  obtain ⟨a1, c1, rfl, hr1⟩ := id hv; have m1 := hr1.most; have r1 := hr1.room; have HV := Lib.hid hv; clear hr1 hv; rw [nums_len] at r1 HV ⊢
  obtain ⟨tiLI, hin, hz0, hz1, hz2⟩ := info_parts info_in; obtain ⟨m, hm⟩ : ∃ m, l.length = m := ⟨_, rfl⟩; rw [hm] at hl r1 HV ⊢; have HM := Lib.hid hm; clear hm
  have hB0 := Below.refl w.heap.size w
  have hs0 := hB0.size
  go_enter Try.func27, Try.ntmps27
  go_wp2_with fail
  go_loopw [5, 6] (fun p5 p6 wr => ∃ k : Nat, k ≤ m ∧ p6 = .int .i64 k ∧ Hid (wr.ownsRow w.heap.size 3 1 p5 (woO (l.take k) i).length (flatR LI (nums (woO (l.take k) i)))) ∧ Below w.heap.size w wr) (fun _ p6 _ => m - (intOf p6).toNat)
  case atStart => exact ⟨0, Nat.zero_le _, rfl, Lib.hid (by rw [List.take_zero]; exact ownR_none), hB0⟩
  case round =>
    clear hB0 hs0
    obtain ⟨k, hk, rfl, HO, hB⟩ := hrel
    have hs := hB.size
    by_cases hlt : k < m
    case neg =>
      have HE := Lib.hid (show l.take k = l by rw [List.take_of_length_le]; rw [HM.out]; omega)
      rw [HE.out] at HO
      have hd : decide ((k : Int) < (m : Int)) = false := decide_eq_false (by omega)
      go_wp2_with fail
      go_returns
      exact ⟨_, rfl, HO.out, hB⟩
    case pos =>
      obtain ⟨x, hx⟩ : ∃ x, l[k]? = some x := ⟨_, List.getElem?_eq_getElem (by rw [HM.out]; exact hlt)⟩
      have hxn : (nums l)[k]? = some (x : Int) := by unfold nums; rw [List.getElem?_map, hx]; rfl
      obtain ⟨b1, o1, rfl, e1⟩ := HV.out.getI hxn
      have E1 := Lib.hid e1; clear e1 hxn
      have i0 : (0 : Int) ≤ (k : Int) := (by omega); have i1 : (k : Int) < (m : Int) := (by omega)
      have f1 := cell_below hB E1.out; have z1 := lt_of_cell f1
      have HW := Lib.hid (show woO (l.take (k + 1)) i = if x = i then woO (l.take k) i else woO (l.take k) i ++ [x] by rw [take_snocW hx, woO_snoc])
      obtain ⟨A, hA⟩ : ∃ A, woO (l.take k) i = A := ⟨_, rfl⟩; have hAl : A.length ≤ 200 := by rw [← hA]; exact Nat.le_trans (woO_le _ _) (by rw [List.length_take]; omega)
      rw [hA] at HO HW; clear hA hx
      obtain ⟨pa, pc, rfl⟩ := own_slR HO.out
      by_cases he : x = i
      case pos =>
        have d1 : ((x : Int) != (i : Int)) = false := by rw [bne_eq_false_iff_eq]; omega
        have HW2 := Lib.hid (HW.out.trans (if_pos he)); clear HW he
        go_wp2_with fail
        go_roundw
        case rel => exact ⟨k + 1, by omega, by go_num, Lib.hid (by rw [HW2.out]; exact HO.out), hB⟩
        case measure => simp [intOf]; omega
      case neg =>
        have d1 : ((x : Int) != (i : Int)) = true := by rw [bne_iff_ne]; omega
        have HW2 := Lib.hid (HW.out.trans (if_neg he)); clear HW he
        have LX : IsR LI (wr.alloc (.cells #[.int .i64 (x : Int)] 3)) (.slice (some ⟨wr.heap.size, 0, none⟩) 1 1) [(x : Int)] := IsR.built [(x : Int)] rfl rfl rfl rfl (show 1 ≤ 1000 by decide)
        have LO := ownR_below HO.out ((Below.refl _ _).alloc (Nat.le_refl _) (.cells #[.int .i64 (x : Int)] 3))
        go_upto_region 4 with (at_builtin; refine wpList_append_rows rfl LI _ _ 22 rfl w.heap.size 3 tiLI (.int .i64 0) 1 8 rfl Try.underlying22 hin hz0 hz1 hz2 rfl _ A.length _ rfl LO _ [(x : Int)] rfl LX (by unfold maxLen; simp; omega) (by simp; omega) (by simp; omega) ?_; intro v40 w40 own4 gr4)
        have hB3 : Below w.heap.size w w40 := (hB.alloc (by omega) (.cells #[.int .i64 (x : Int)] 3)).grown gr4 (by simp; omega) (ownR_block LO)
        have HO3 : Hid (w40.ownsRow w.heap.size 3 1 v40 (A ++ [x]).length (flatR LI (nums (A ++ [x])))) := Lib.hid (by
          rw [nums_snoc, flatR_app, List.length_append]
          exact own4)
        clear own4 gr4 LO LX HO hB f1 z1 hs d1
        go_wp2_with fail
        go_roundw
        case rel => exact ⟨k + 1, by omega, by go_num, Lib.hid (by rw [HW2.out]; exact HO3.out), hB3⟩
        case measure => simp [intOf]; omega

set_option maxRecDepth 100000 in
set_option maxHeartbeats 6400000 in
theorem rlchk_a {v : Value} {O : Od} (h : O.pv.length < 1) (w : World) (h1 : IsO w v O) : Calls Try.prog 22 #[v] w fun e w' => e = .returned (.int .i64 8) ∧ Below w.heap.size w w' := by
  have HO := Lib.hid h1
  obtain ⟨v1, v2, rfl, g1, g2⟩ := id h1
  obtain ⟨a1, c1, rfl, hr1⟩ := id g1; obtain ⟨a2, c2, rfl, hr2⟩ := id g2
  have m1 := hr1.most; have r1 := hr1.room; have m2 := hr2.most; have r2 := hr2.room; have H1 := Lib.hid g1; have H2 := Lib.hid g2
  clear hr1 hr2 g1 g2 h1
  have d0 : decide ((O.pv.length : Int) < 1) = true := decide_eq_true (by omega)
  clear HO H1 H2 h
  go_enter Try.func22, Try.ntmps22
  go_upto_region 1 with fail
  refine F_gen (F := fun W => Code.wp _ _ _ _ W) (J := fun W => Box W (w.heap.size) ([.slice a1 O.pv.length c1, .slice a2 O.nx.length c2, .int .i64 O.hd, .int .i64 O.tl]) ∧ Below w.heap.size w W) (And.intro (Box.newc rfl rfl) (by go_grown)) ?_
  intro w0 ⟨e_a, hB0⟩
  have hs0 := hB0.size
  have x_a0 := e_a; clear e_a
  have ca := (x_a0).c 0 _ rfl
  have za := (x_a0).lt
  have cb := (x_a0).c 1 _ rfl
  have zb := (x_a0).lt
  go_wp2_with fail
  go_returns
  exact ⟨rfl, hB0⟩

set_option maxRecDepth 100000 in
set_option maxHeartbeats 6400000 in
theorem rlchk_b {v : Value} {O : Od} (h : 16 < O.pv.length) (w : World) (h1 : IsO w v O) : Calls Try.prog 22 #[v] w fun e w' => e = .returned (.int .i64 8) ∧ Below w.heap.size w w' := by
  have HO := Lib.hid h1
  obtain ⟨v1, v2, rfl, g1, g2⟩ := id h1
  obtain ⟨a1, c1, rfl, hr1⟩ := id g1; obtain ⟨a2, c2, rfl, hr2⟩ := id g2
  have m1 := hr1.most; have r1 := hr1.room; have m2 := hr2.most; have r2 := hr2.room; have H1 := Lib.hid g1; have H2 := Lib.hid g2
  clear hr1 hr2 g1 g2 h1
  have d0 : decide ((O.pv.length : Int) < 1) = false := decide_eq_false (by omega)
  have d1 : decide (16 < (O.pv.length : Int)) = true := decide_eq_true (by omega)
  clear HO H1 H2 h
  go_enter Try.func22, Try.ntmps22
  go_upto_region 1 with fail
  refine F_gen (F := fun W => Code.wp _ _ _ _ W) (J := fun W => Box W (w.heap.size) ([.slice a1 O.pv.length c1, .slice a2 O.nx.length c2, .int .i64 O.hd, .int .i64 O.tl]) ∧ Below w.heap.size w W) (And.intro (Box.newc rfl rfl) (by go_grown)) ?_
  intro w0 ⟨e_a, hB0⟩
  have hs0 := hB0.size
  have x_a0 := e_a; clear e_a
  have ca := (x_a0).c 0 _ rfl
  have za := (x_a0).lt
  have cb := (x_a0).c 1 _ rfl
  have zb := (x_a0).lt
  go_wp2_with fail
  go_returns
  exact ⟨rfl, hB0⟩

set_option maxRecDepth 100000 in
set_option maxHeartbeats 6400000 in
theorem rlchk_c {v : Value} {O : Od} (h : 1 ≤ O.pv.length ∧ O.pv.length ≤ 16) (h2 : O.nx.length ≠ O.pv.length) (w : World) (h1 : IsO w v O) : Calls Try.prog 22 #[v] w fun e w' => e = .returned (.int .i64 8) ∧ Below w.heap.size w w' := by
  have HO := Lib.hid h1
  obtain ⟨v1, v2, rfl, g1, g2⟩ := id h1
  obtain ⟨a1, c1, rfl, hr1⟩ := id g1; obtain ⟨a2, c2, rfl, hr2⟩ := id g2
  have m1 := hr1.most; have r1 := hr1.room; have m2 := hr2.most; have r2 := hr2.room; have H1 := Lib.hid g1; have H2 := Lib.hid g2
  clear hr1 hr2 g1 g2 h1
  have d0 : decide ((O.pv.length : Int) < 1) = false := decide_eq_false (by omega)
  have d1 : decide (16 < (O.pv.length : Int)) = false := decide_eq_false (by omega)
  have d9 : ((O.nx.length : Int) != (O.pv.length : Int)) = true := by rw [bne_iff_ne]; omega
  clear HO H1 H2 h h2
  go_enter Try.func22, Try.ntmps22
  go_upto_region 1 with fail
  refine F_gen (F := fun W => Code.wp _ _ _ _ W) (J := fun W => Box W (w.heap.size) ([.slice a1 O.pv.length c1, .slice a2 O.nx.length c2, .int .i64 O.hd, .int .i64 O.tl]) ∧ Below w.heap.size w W) (And.intro (Box.newc rfl rfl) (by go_grown)) ?_
  intro w0 ⟨e_a, hB0⟩
  have hs0 := hB0.size
  have x_a0 := e_a; clear e_a
  have ca := (x_a0).c 0 _ rfl
  have za := (x_a0).lt
  have cb := (x_a0).c 1 _ rfl
  have zb := (x_a0).lt
  go_wp2_with fail
  go_returns
  exact ⟨rfl, hB0⟩

set_option maxRecDepth 100000 in
set_option maxHeartbeats 6400000 in
theorem rlchk_d {v : Value} {O : Od} (hp : 1 ≤ O.pv.length) (hm : O.pv.length ≤ 16) (hu : O.nx.length = O.pv.length) (hr : ∀ l, ¬ FreeL (Ar.mk O.nx [] O.hd) l) (w : World) (h1 : IsO w v O) : Calls Try.prog 22 #[v] w fun e w' => e = .returned (.int .i64 8) ∧ Below w.heap.size w w' := by
  have AL := fun (W : World) (u : Value) (h : IsO W u O) => rlall_is W h (by omega) (Or.inr ⟨rfl, hr⟩)
  have HO := Lib.hid h1
  obtain ⟨v1, v2, rfl, g1, g2⟩ := id h1
  obtain ⟨a1, c1, rfl, hr1⟩ := id g1; obtain ⟨a2, c2, rfl, hr2⟩ := id g2
  have m1 := hr1.most; have r1 := hr1.room; have m2 := hr2.most; have r2 := hr2.room; have H1 := Lib.hid g1; have H2 := Lib.hid g2
  clear hr1 hr2 g1 g2 h1
  obtain ⟨n, hn⟩ : ∃ n, O.pv.length = n := ⟨_, rfl⟩
  rw [hu] at r2 H2 HO ⊢; rw [hn] at hu hp hm r1 r2 H1 H2 HO ⊢
  have SA := Lib.hid (size_od (.slice a1 n c1) (.slice a2 n c2) (.int .i64 O.hd) (.int .i64 O.tl))
  clear hr
  have d0 : decide ((n : Int) < 1) = false := decide_eq_false (by omega)
  have d1 : decide (16 < (n : Int)) = false := decide_eq_false (by omega)
  clear hn hu
  go_enter Try.func22, Try.ntmps22
  go_upto_region 1 with fail
  refine F_gen (F := fun W => Code.wp _ _ _ _ W) (J := fun W => Box W (w.heap.size) ([.slice a1 n c1, .slice a2 n c2, .int .i64 O.hd, .int .i64 O.tl]) ∧ Below w.heap.size w W) (And.intro (Box.newc rfl rfl) (by go_grown)) ?_
  intro w0 ⟨e_a, hB0⟩
  have hs0 := hB0.size
  have x_a0 := e_a; clear e_a
  have ca := (x_a0).c 0 _ rfl
  have za := (x_a0).lt
  have cb := (x_a0).c 1 _ rfl
  have zb := (x_a0).lt
  go_upto_region 3 with fail
  clear d0 d1 ca za cb zb
  go_wp2_with (refine wpList_load_box9 rfl _ _ rfl x_a0 rfl Try.underlying24 rfl SA.out ?_)
  refine (AL _ _ (HO.out.below hB0)).mono ?_
  rintro e w1 ⟨u, rfl, hI, hO, hb⟩
  have hB1 : Below w.heap.size w w1 := below_thru hB0 hb
  have hs1 := hB1.size
  have x_a1 : Box w1 (w.heap.size) ([.slice a1 n c1, .slice a2 n c2, .int .i64 O.hd, .int .i64 O.tl]) := Box.below x_a0 hb
  clear hB0 hs0 x_a0
  clear hb
  clear hO; have HI : Hid (IsR LI w1 u (nums (Option.getD none []))) := Lib.hid hI; clear hI
  have K_w1_1 : Below w1.heap.size w1 w1 := Below.refl _ _
  go_upto_region 4 with fail
  refine wp_region_held_drew (S := fun W => Box W (w.heap.size) ([.slice a1 n c1, .slice a2 n c2, .int .i64 O.hd, .int .i64 O.tl])) (by kernel_rfl) (x_a1).drew (fun _ => ?_)
  refine F_drew (F := fun W => wpAnyH _ _ _ _ _ _ _ _ W) ?_
  intro Ws0 hbs0
  clear hs1
  have x_a_s0 : Box Ws0 (w.heap.size) ([.slice a1 n c1, .slice a2 n c2, .int .i64 O.hd, .int .i64 O.tl]) := Box.below x_a1 hbs0
  have Bs0 := below_thru hB1 hbs0
  have K_w1_s0 := below_thru K_w1_1 hbs0
  clear x_a1 hB1 K_w1_1 hbs0
  refine takeH 0 29 (v := ?vs0_1) rfl (by rfl) (by kernel_rfl) (by kernel_rfl) (by kernel_rfl) (fun _ _ _ h => h) (Or.inl ⟨by rfl, ?_⟩) (x_a_s0) ?_
  rotate_left
  · intro wq hSq
    go_simp
    exact rfl
  try simp only [Act.put, List.setIfInBounds_toArray, List.set_cons_zero, List.set_cons_succ]
  refine takeH 1 30 (v := ?vs1_2) rfl (by rfl) (by kernel_rfl) (by kernel_rfl) (by kernel_rfl) (fun _ _ _ h => h) (Or.inl ⟨by rfl, ?_⟩) (x_a_s0) ?_
  rotate_left
  · intro wq hSq
    go_simp
    exact rfl
  try simp only [Act.put, List.setIfInBounds_toArray, List.set_cons_zero, List.set_cons_succ]
  refine takeH 2 31 (v := ?vs2_3) rfl (by rfl) (by kernel_rfl) (by kernel_rfl) (by kernel_rfl) (fun _ _ _ h => h) (Or.inl ⟨by rfl, ?_⟩) (x_a_s0) ?_
  rotate_left
  · intro wq hSq
    go_simp
    exact rfl
  try simp only [Act.put, List.setIfInBounds_toArray, List.set_cons_zero, List.set_cons_succ]
  refine takeH 3 32 (v := undef) rfl (by rfl) (by kernel_rfl) (by kernel_rfl) (by kernel_rfl) (fun _ _ _ h => h) (Or.inr ⟨by rfl, rfl⟩) (x_a_s0) ?_
  try simp only [Act.put, List.setIfInBounds_toArray, List.set_cons_zero, List.set_cons_succ]
  refine takeH 4 33 (v := undef) rfl (by rfl) (by kernel_rfl) (by kernel_rfl) (by kernel_rfl) (fun _ _ _ h => h) (Or.inr ⟨by rfl, rfl⟩) (x_a_s0) ?_
  try simp only [Act.put, List.setIfInBounds_toArray, List.set_cons_zero, List.set_cons_succ]
  refine takeH 5 34 (v := undef) rfl (by rfl) (by kernel_rfl) (by kernel_rfl) (by kernel_rfl) (fun _ _ _ h => h) (Or.inr ⟨by rfl, rfl⟩) (x_a_s0) ?_
  try simp only [Act.put, List.setIfInBounds_toArray, List.set_cons_zero, List.set_cons_succ]
  refine takeH 6 35 (v := undef) rfl (by rfl) (by kernel_rfl) (by kernel_rfl) (by kernel_rfl) (fun _ _ _ h => h) (Or.inr ⟨by rfl, rfl⟩) (x_a_s0) ?_
  try simp only [Act.put, List.setIfInBounds_toArray, List.set_cons_zero, List.set_cons_succ]
  refine takeH 7 36 (v := undef) rfl (by rfl) (by kernel_rfl) (by kernel_rfl) (by kernel_rfl) (fun _ _ _ h => h) (Or.inr ⟨by rfl, rfl⟩) (x_a_s0) ?_
  try simp only [Act.put, List.setIfInBounds_toArray, List.set_cons_zero, List.set_cons_succ]
  refine takeH 8 37 (v := undef) rfl (by rfl) (by kernel_rfl) (by kernel_rfl) (by kernel_rfl) (fun _ _ _ h => h) (Or.inr ⟨by rfl, rfl⟩) (x_a_s0) ?_
  try simp only [Act.put, List.setIfInBounds_toArray, List.set_cons_zero, List.set_cons_succ]
  refine takeH 9 38 (v := undef) rfl (by rfl) (by kernel_rfl) (by kernel_rfl) (by kernel_rfl) (fun _ _ _ h => h) (Or.inr ⟨by rfl, rfl⟩) (x_a_s0) ?_
  try simp only [Act.put, List.setIfInBounds_toArray, List.set_cons_zero, List.set_cons_succ]
  refine takeH 10 39 (v := undef) rfl (by rfl) (by kernel_rfl) (by kernel_rfl) (by kernel_rfl) (fun _ _ _ h => h) (Or.inr ⟨by rfl, rfl⟩) (x_a_s0) ?_
  try simp only [Act.put, List.setIfInBounds_toArray, List.set_cons_zero, List.set_cons_succ]
  refine takeH 11 40 (v := ?vs11_4) rfl (by rfl) (by kernel_rfl) (by kernel_rfl) (by kernel_rfl) (fun _ _ _ h => h) (Or.inl ⟨by rfl, ?_⟩) (x_a_s0) ?_
  rotate_left
  · intro wq hSq
    go_simp
    exact rfl
  try simp only [Act.put, List.setIfInBounds_toArray, List.set_cons_zero, List.set_cons_succ]
  refine wpAnyH_done (by kernel_rfl) ?_ _
  go_wp2_with fail
  go_returns
  exact ⟨rfl, Bs0⟩

set_option maxRecDepth 100000 in
set_option maxHeartbeats 6400000 in
theorem rlchk_e {v : Value} {O : Od} (hp : 1 ≤ O.pv.length) (hm : O.pv.length ≤ 16) (hu : O.nx.length = O.pv.length) {l : List Nat} (hr : FreeL (Ar.mk O.nx [] O.hd) l) (he : O ≠ ofL O.pv.length l) (w : World) (h1 : IsO w v O) : Calls Try.prog 22 #[v] w fun e w' => e = .returned (.int .i64 8) ∧ Below w.heap.size w w' := by
  have AL := fun (W : World) (u : Value) (h : IsO W u O) => rlall_is W h (by omega) (Or.inl ⟨l, rfl, hr⟩)
  have MD := fun (W : World) (u : Value) (h : IsR LI W u (nums l)) => rlmade_is (n := O.pv.length) hp (by omega) hr.2 (fun j hj => by rw [← hu]; exact hr.1.lt j hj) W h
  have SM := fun (W : World) (a b : Value) (h : IsO W a O) (g : IsO W b (ofL O.pv.length l)) => rlsame_is (b := false) ⟨fun h => (Bool.false_ne_true h).elim, fun h => absurd h he⟩ W h g
  have HO := Lib.hid h1
  obtain ⟨v1, v2, rfl, g1, g2⟩ := id h1
  obtain ⟨a1, c1, rfl, hr1⟩ := id g1; obtain ⟨a2, c2, rfl, hr2⟩ := id g2
  have m1 := hr1.most; have r1 := hr1.room; have m2 := hr2.most; have r2 := hr2.room; have H1 := Lib.hid g1; have H2 := Lib.hid g2
  clear hr1 hr2 g1 g2 h1
  obtain ⟨n, hn⟩ : ∃ n, O.pv.length = n := ⟨_, rfl⟩
  rw [hu] at r2 H2 HO ⊢; rw [hn] at hu hp hm r1 r2 H1 H2 HO MD SM ⊢
  have SA := Lib.hid (size_od (.slice a1 n c1) (.slice a2 n c2) (.int .i64 O.hd) (.int .i64 O.tl))
  clear hr he
  have d0 : decide ((n : Int) < 1) = false := decide_eq_false (by omega)
  have d1 : decide (16 < (n : Int)) = false := decide_eq_false (by omega)
  clear hn hu
  go_enter Try.func22, Try.ntmps22
  go_upto_region 1 with fail
  refine F_gen (F := fun W => Code.wp _ _ _ _ W) (J := fun W => Box W (w.heap.size) ([.slice a1 n c1, .slice a2 n c2, .int .i64 O.hd, .int .i64 O.tl]) ∧ Below w.heap.size w W) (And.intro (Box.newc rfl rfl) (by go_grown)) ?_
  intro w0 ⟨e_a, hB0⟩
  have hs0 := hB0.size
  have x_a0 := e_a; clear e_a
  have ca := (x_a0).c 0 _ rfl
  have za := (x_a0).lt
  have cb := (x_a0).c 1 _ rfl
  have zb := (x_a0).lt
  go_upto_region 3 with fail
  clear d0 d1 ca za cb zb
  go_wp2_with (refine wpList_load_box9 rfl _ _ rfl x_a0 rfl Try.underlying24 rfl SA.out ?_)
  refine (AL _ _ (HO.out.below hB0)).mono ?_
  rintro e w1 ⟨u, rfl, hI, hO, hb⟩
  have hB1 : Below w.heap.size w w1 := below_thru hB0 hb
  have hs1 := hB1.size
  have x_a1 : Box w1 (w.heap.size) ([.slice a1 n c1, .slice a2 n c2, .int .i64 O.hd, .int .i64 O.tl]) := Box.below x_a0 hb
  clear hB0 hs0 x_a0
  clear hb
  clear hO; have HI : Hid (IsR LI w1 u (nums (Option.getD (some l) []))) := Lib.hid hI; clear hI
  have K_w1_1 : Below w1.heap.size w1 w1 := Below.refl _ _
  go_upto_region 4 with fail
  refine wp_region_held_drew (S := fun W => Box W (w.heap.size) ([.slice a1 n c1, .slice a2 n c2, .int .i64 O.hd, .int .i64 O.tl])) (by kernel_rfl) (x_a1).drew (fun _ => ?_)
  refine F_drew (F := fun W => wpAnyH _ _ _ _ _ _ _ _ W) ?_
  intro Ws0 hbs0
  clear hs1
  have x_a_s0 : Box Ws0 (w.heap.size) ([.slice a1 n c1, .slice a2 n c2, .int .i64 O.hd, .int .i64 O.tl]) := Box.below x_a1 hbs0
  have Bs0 := below_thru hB1 hbs0
  have K_w1_s0 := below_thru K_w1_1 hbs0
  clear x_a1 hB1 K_w1_1 hbs0
  refine takeH 0 29 (v := ?vs0_1) rfl (by rfl) (by kernel_rfl) (by kernel_rfl) (by kernel_rfl) (fun _ _ _ h => h) (Or.inl ⟨by rfl, ?_⟩) (x_a_s0) ?_
  rotate_left
  · intro wq hSq
    go_simp
    exact rfl
  try simp only [Act.put, List.setIfInBounds_toArray, List.set_cons_zero, List.set_cons_succ]
  refine takeH 1 30 (v := ?vs1_2) rfl (by rfl) (by kernel_rfl) (by kernel_rfl) (by kernel_rfl) (fun _ _ _ h => h) (Or.inl ⟨by rfl, ?_⟩) (x_a_s0) ?_
  rotate_left
  · intro wq hSq
    go_simp
    exact rfl
  try simp only [Act.put, List.setIfInBounds_toArray, List.set_cons_zero, List.set_cons_succ]
  refine takeH 2 31 (v := ?vs2_3) rfl (by rfl) (by kernel_rfl) (by kernel_rfl) (by kernel_rfl) (fun _ _ _ h => h) (Or.inl ⟨by rfl, ?_⟩) (x_a_s0) ?_
  rotate_left
  · intro wq hSq
    go_simp
    exact rfl
  try simp only [Act.put, List.setIfInBounds_toArray, List.set_cons_zero, List.set_cons_succ]
  refine takeH 4 33 (v := ?vs4_4) rfl (by rfl) (by kernel_rfl) (by kernel_rfl) (by kernel_rfl) (fun _ _ _ h => h) (Or.inl ⟨by rfl, ?_⟩) (x_a_s0) ?_
  rotate_left
  · intro wq hSq
    go_simp
    exact rfl
  try simp only [Act.put, List.setIfInBounds_toArray, List.set_cons_zero, List.set_cons_succ]
  refine takeH 5 34 (v := ?vs5_5) rfl (by rfl) (by kernel_rfl) (by kernel_rfl) (by kernel_rfl) (fun _ _ _ h => h) (Or.inl ⟨by rfl, ?_⟩) (x_a_s0) ?_
  rotate_left
  · intro wq hSq
    have cq := hSq.c 0 _ rfl
    have zq := lt_of_cell cq
    go_simp
    exact rfl
  try simp only [Act.put, List.setIfInBounds_toArray, List.set_cons_zero, List.set_cons_succ]
  refine takeH 6 35 (v := ?vs6_6) rfl (by rfl) (by kernel_rfl) (by kernel_rfl) (by kernel_rfl) (fun _ _ _ h => h) (Or.inl ⟨by rfl, ?_⟩) (x_a_s0) ?_
  rotate_left
  · intro wq hSq
    go_simp
    exact rfl
  try simp only [Act.put, List.setIfInBounds_toArray, List.set_cons_zero, List.set_cons_succ]
  refine takeH 7 36 (v := ?vs7_7) rfl (by rfl) (by kernel_rfl) (by kernel_rfl) (by kernel_rfl) (fun _ _ _ h => h) (Or.inl ⟨by rfl, ?_⟩) (x_a_s0) ?_
  rotate_left
  · intro wq hSq
    go_simp
    exact rfl
  try simp only [Act.put, List.setIfInBounds_toArray, List.set_cons_zero, List.set_cons_succ]
  refine takeH 3 32 (v := .agg ([.slice a1 n c1, .slice a2 n c2, .int .i64 O.hd, .int .i64 O.tl]).toArray) rfl (by rfl) (by kernel_rfl) (by kernel_rfl) (by kernel_rfl) (fun _ _ _ h => h) (yieldsIf_load_mid (by rfl) _ _ rfl _ _ rfl ([.slice a1 n c1, .slice a2 n c2, .int .i64 O.hd, .int .i64 O.tl]) _ (fun wq hq => Box.range (hq)) Try.underlying24 rfl SA.out) (x_a_s0) ?_
  try simp only [Act.put, List.setIfInBounds_toArray, List.set_cons_zero, List.set_cons_succ]
  refine wpAnyH_ready (rs := [8]) (by kernel_rfl) (by simp) (AllReadyH.cons rfl (fun K hK => ?_) AllReadyH.nil)
  go_simp
  refine (MD _ _ (HI.out.below K_w1_s0)).mono ?_
  rintro e Ws8 ⟨u8, rfl, hI8, hbs8⟩
  have hbb8 := hbs8.2; have hII8 := Lib.hid hI8
  have x_a_s8 : Box Ws8 (w.heap.size) ([.slice a1 n c1, .slice a2 n c2, .int .i64 O.hd, .int .i64 O.tl]) := Box.below x_a_s0 hbb8
  have Bs8 := below_thru Bs0 hbb8
  have K_w1_s8 := below_thru K_w1_s0 hbb8
  clear x_a_s0 Bs0 K_w1_s0 hbb8
  clear hI8 hbs8
  refine hK.out _ _ x_a_s8 (fun _ => ?_); clear hK K
  refine wpAnyH_ready (rs := [9]) (by kernel_rfl) (by simp) (AllReadyH.cons rfl (fun K hK => ?_) AllReadyH.nil)
  go_simp
  refine (SM _ _ _ (HO.out.below Bs8) hII8.out).mono ?_
  rintro e Ws9 ⟨rfl, hbs9⟩
  have x_a_s9 : Box Ws9 (w.heap.size) ([.slice a1 n c1, .slice a2 n c2, .int .i64 O.hd, .int .i64 O.tl]) := Box.below x_a_s8 hbs9
  have Bs9 := below_thru Bs8 hbs9
  have K_w1_s9 := below_thru K_w1_s8 hbs9
  clear x_a_s8 Bs8 K_w1_s8 hbs9
  refine hK.out _ _ x_a_s9 (fun _ => ?_); clear hK K
  refine takeH 10 39 (v := ?vs10_10) rfl (by rfl) (by kernel_rfl) (by kernel_rfl) (by kernel_rfl) (fun _ _ _ h => h) (Or.inl ⟨by rfl, ?_⟩) (x_a_s9) ?_
  rotate_left
  · intro wq hSq
    go_simp
    exact rfl
  try simp only [Act.put, List.setIfInBounds_toArray, List.set_cons_zero, List.set_cons_succ]
  refine takeH 11 40 (v := ?vs11_11) rfl (by rfl) (by kernel_rfl) (by kernel_rfl) (by kernel_rfl) (fun _ _ _ h => h) (Or.inl ⟨by rfl, ?_⟩) (x_a_s9) ?_
  rotate_left
  · intro wq hSq
    go_simp
    exact rfl
  try simp only [Act.put, List.setIfInBounds_toArray, List.set_cons_zero, List.set_cons_succ]
  refine wpAnyH_done (by kernel_rfl) ?_ _
  go_wp2_with fail
  go_returns
  exact ⟨rfl, Bs9⟩

set_option maxRecDepth 100000 in
set_option maxHeartbeats 6400000 in
theorem rlchk_f {v : Value} {O : Od} (hp : 1 ≤ O.pv.length) (hm : O.pv.length ≤ 16) (hu : O.nx.length = O.pv.length) {l : List Nat} (hr : FreeL (Ar.mk O.nx [] O.hd) l) (he : O = ofL O.pv.length l) (w : World) (h1 : IsO w v O) : Calls Try.prog 22 #[v] w fun e w' => e = .returned (.int .i64 0) ∧ Below w.heap.size w w' := by
  have AL := fun (W : World) (u : Value) (h : IsO W u O) => rlall_is W h (by omega) (Or.inl ⟨l, rfl, hr⟩)
  have MD := fun (W : World) (u : Value) (h : IsR LI W u (nums l)) => rlmade_is (n := O.pv.length) hp (by omega) hr.2 (fun j hj => by rw [← hu]; exact hr.1.lt j hj) W h
  have SM := fun (W : World) (a b : Value) (h : IsO W a O) (g : IsO W b (ofL O.pv.length l)) => rlsame_is (b := true) ⟨fun _ => he, fun _ => rfl⟩ W h g
  have HO := Lib.hid h1
  obtain ⟨v1, v2, rfl, g1, g2⟩ := id h1
  obtain ⟨a1, c1, rfl, hr1⟩ := id g1; obtain ⟨a2, c2, rfl, hr2⟩ := id g2
  have m1 := hr1.most; have r1 := hr1.room; have m2 := hr2.most; have r2 := hr2.room; have H1 := Lib.hid g1; have H2 := Lib.hid g2
  clear hr1 hr2 g1 g2 h1
  obtain ⟨n, hn⟩ : ∃ n, O.pv.length = n := ⟨_, rfl⟩
  rw [hu] at r2 H2 HO ⊢; rw [hn] at hu hp hm r1 r2 H1 H2 HO MD SM ⊢
  have SA := Lib.hid (size_od (.slice a1 n c1) (.slice a2 n c2) (.int .i64 O.hd) (.int .i64 O.tl))
  clear hr he
  have d0 : decide ((n : Int) < 1) = false := decide_eq_false (by omega)
  have d1 : decide (16 < (n : Int)) = false := decide_eq_false (by omega)
  clear hn hu
  go_enter Try.func22, Try.ntmps22
  go_upto_region 1 with fail
  refine F_gen (F := fun W => Code.wp _ _ _ _ W) (J := fun W => Box W (w.heap.size) ([.slice a1 n c1, .slice a2 n c2, .int .i64 O.hd, .int .i64 O.tl]) ∧ Below w.heap.size w W) (And.intro (Box.newc rfl rfl) (by go_grown)) ?_
  intro w0 ⟨e_a, hB0⟩
  have hs0 := hB0.size
  have x_a0 := e_a; clear e_a
  have ca := (x_a0).c 0 _ rfl
  have za := (x_a0).lt
  have cb := (x_a0).c 1 _ rfl
  have zb := (x_a0).lt
  go_upto_region 3 with fail
  clear d0 d1 ca za cb zb
  go_wp2_with (refine wpList_load_box9 rfl _ _ rfl x_a0 rfl Try.underlying24 rfl SA.out ?_)
  refine (AL _ _ (HO.out.below hB0)).mono ?_
  rintro e w1 ⟨u, rfl, hI, hO, hb⟩
  have hB1 : Below w.heap.size w w1 := below_thru hB0 hb
  have hs1 := hB1.size
  have x_a1 : Box w1 (w.heap.size) ([.slice a1 n c1, .slice a2 n c2, .int .i64 O.hd, .int .i64 O.tl]) := Box.below x_a0 hb
  clear hB0 hs0 x_a0
  clear hb
  clear hO; have HI : Hid (IsR LI w1 u (nums (Option.getD (some l) []))) := Lib.hid hI; clear hI
  have K_w1_1 : Below w1.heap.size w1 w1 := Below.refl _ _
  go_upto_region 4 with fail
  refine wp_region_held_drew (S := fun W => Box W (w.heap.size) ([.slice a1 n c1, .slice a2 n c2, .int .i64 O.hd, .int .i64 O.tl])) (by kernel_rfl) (x_a1).drew (fun _ => ?_)
  refine F_drew (F := fun W => wpAnyH _ _ _ _ _ _ _ _ W) ?_
  intro Ws0 hbs0
  clear hs1
  have x_a_s0 : Box Ws0 (w.heap.size) ([.slice a1 n c1, .slice a2 n c2, .int .i64 O.hd, .int .i64 O.tl]) := Box.below x_a1 hbs0
  have Bs0 := below_thru hB1 hbs0
  have K_w1_s0 := below_thru K_w1_1 hbs0
  clear x_a1 hB1 K_w1_1 hbs0
  refine takeH 0 29 (v := ?vs0_1) rfl (by rfl) (by kernel_rfl) (by kernel_rfl) (by kernel_rfl) (fun _ _ _ h => h) (Or.inl ⟨by rfl, ?_⟩) (x_a_s0) ?_
  rotate_left
  · intro wq hSq
    go_simp
    exact rfl
  try simp only [Act.put, List.setIfInBounds_toArray, List.set_cons_zero, List.set_cons_succ]
  refine takeH 1 30 (v := ?vs1_2) rfl (by rfl) (by kernel_rfl) (by kernel_rfl) (by kernel_rfl) (fun _ _ _ h => h) (Or.inl ⟨by rfl, ?_⟩) (x_a_s0) ?_
  rotate_left
  · intro wq hSq
    go_simp
    exact rfl
  try simp only [Act.put, List.setIfInBounds_toArray, List.set_cons_zero, List.set_cons_succ]
  refine takeH 2 31 (v := ?vs2_3) rfl (by rfl) (by kernel_rfl) (by kernel_rfl) (by kernel_rfl) (fun _ _ _ h => h) (Or.inl ⟨by rfl, ?_⟩) (x_a_s0) ?_
  rotate_left
  · intro wq hSq
    go_simp
    exact rfl
  try simp only [Act.put, List.setIfInBounds_toArray, List.set_cons_zero, List.set_cons_succ]
  refine takeH 4 33 (v := ?vs4_4) rfl (by rfl) (by kernel_rfl) (by kernel_rfl) (by kernel_rfl) (fun _ _ _ h => h) (Or.inl ⟨by rfl, ?_⟩) (x_a_s0) ?_
  rotate_left
  · intro wq hSq
    go_simp
    exact rfl
  try simp only [Act.put, List.setIfInBounds_toArray, List.set_cons_zero, List.set_cons_succ]
  refine takeH 5 34 (v := ?vs5_5) rfl (by rfl) (by kernel_rfl) (by kernel_rfl) (by kernel_rfl) (fun _ _ _ h => h) (Or.inl ⟨by rfl, ?_⟩) (x_a_s0) ?_
  rotate_left
  · intro wq hSq
    have cq := hSq.c 0 _ rfl
    have zq := lt_of_cell cq
    go_simp
    exact rfl
  try simp only [Act.put, List.setIfInBounds_toArray, List.set_cons_zero, List.set_cons_succ]
  refine takeH 6 35 (v := ?vs6_6) rfl (by rfl) (by kernel_rfl) (by kernel_rfl) (by kernel_rfl) (fun _ _ _ h => h) (Or.inl ⟨by rfl, ?_⟩) (x_a_s0) ?_
  rotate_left
  · intro wq hSq
    go_simp
    exact rfl
  try simp only [Act.put, List.setIfInBounds_toArray, List.set_cons_zero, List.set_cons_succ]
  refine takeH 7 36 (v := ?vs7_7) rfl (by rfl) (by kernel_rfl) (by kernel_rfl) (by kernel_rfl) (fun _ _ _ h => h) (Or.inl ⟨by rfl, ?_⟩) (x_a_s0) ?_
  rotate_left
  · intro wq hSq
    go_simp
    exact rfl
  try simp only [Act.put, List.setIfInBounds_toArray, List.set_cons_zero, List.set_cons_succ]
  refine takeH 3 32 (v := .agg ([.slice a1 n c1, .slice a2 n c2, .int .i64 O.hd, .int .i64 O.tl]).toArray) rfl (by rfl) (by kernel_rfl) (by kernel_rfl) (by kernel_rfl) (fun _ _ _ h => h) (yieldsIf_load_mid (by rfl) _ _ rfl _ _ rfl ([.slice a1 n c1, .slice a2 n c2, .int .i64 O.hd, .int .i64 O.tl]) _ (fun wq hq => Box.range (hq)) Try.underlying24 rfl SA.out) (x_a_s0) ?_
  try simp only [Act.put, List.setIfInBounds_toArray, List.set_cons_zero, List.set_cons_succ]
  refine wpAnyH_ready (rs := [8]) (by kernel_rfl) (by simp) (AllReadyH.cons rfl (fun K hK => ?_) AllReadyH.nil)
  go_simp
  refine (MD _ _ (HI.out.below K_w1_s0)).mono ?_
  rintro e Ws8 ⟨u8, rfl, hI8, hbs8⟩
  have hbb8 := hbs8.2; have hII8 := Lib.hid hI8
  have x_a_s8 : Box Ws8 (w.heap.size) ([.slice a1 n c1, .slice a2 n c2, .int .i64 O.hd, .int .i64 O.tl]) := Box.below x_a_s0 hbb8
  have Bs8 := below_thru Bs0 hbb8
  have K_w1_s8 := below_thru K_w1_s0 hbb8
  clear x_a_s0 Bs0 K_w1_s0 hbb8
  clear hI8 hbs8
  refine hK.out _ _ x_a_s8 (fun _ => ?_); clear hK K
  refine wpAnyH_ready (rs := [9]) (by kernel_rfl) (by simp) (AllReadyH.cons rfl (fun K hK => ?_) AllReadyH.nil)
  go_simp
  refine (SM _ _ _ (HO.out.below Bs8) hII8.out).mono ?_
  rintro e Ws9 ⟨rfl, hbs9⟩
  have x_a_s9 : Box Ws9 (w.heap.size) ([.slice a1 n c1, .slice a2 n c2, .int .i64 O.hd, .int .i64 O.tl]) := Box.below x_a_s8 hbs9
  have Bs9 := below_thru Bs8 hbs9
  have K_w1_s9 := below_thru K_w1_s8 hbs9
  clear x_a_s8 Bs8 K_w1_s8 hbs9
  refine hK.out _ _ x_a_s9 (fun _ => ?_); clear hK K
  refine takeH 10 39 (v := ?vs10_10) rfl (by rfl) (by kernel_rfl) (by kernel_rfl) (by kernel_rfl) (fun _ _ _ h => h) (Or.inl ⟨by rfl, ?_⟩) (x_a_s9) ?_
  rotate_left
  · intro wq hSq
    go_simp
    exact rfl
  try simp only [Act.put, List.setIfInBounds_toArray, List.set_cons_zero, List.set_cons_succ]
  refine takeH 11 40 (v := ?vs11_11) rfl (by rfl) (by kernel_rfl) (by kernel_rfl) (by kernel_rfl) (fun _ _ _ h => h) (Or.inl ⟨by rfl, ?_⟩) (x_a_s9) ?_
  rotate_left
  · intro wq hSq
    go_simp
    exact rfl
  try simp only [Act.put, List.setIfInBounds_toArray, List.set_cons_zero, List.set_cons_succ]
  refine wpAnyH_done (by kernel_rfl) ?_ _
  go_wp2_with fail
  go_returns
  exact ⟨rfl, Bs9⟩

theorem VO.freeL {O : Od} {l : List Nat} (h : VO O l) : FreeL (Ar.mk O.nx [] O.hd) l := ⟨h.path, h.nodup⟩
theorem rlchk_is {v : Value} {O : Od} {q : Int} (w : World) (h1 : IsO w v O) (hq : ChkO O q) : Calls Try.prog 22 #[v] w fun e w' => e = .returned (.int .i64 q) ∧ Below w.heap.size w w' := by
  by_cases h : O.pv.length < 1
  · rw [hq.uniq (ChkO.big (Or.inl h))]
    exact rlchk_a h w h1
  · by_cases h2 : 16 < O.pv.length
    · rw [hq.uniq (ChkO.big (Or.inr (Or.inl h2)))]
      exact rlchk_b h2 w h1
    · by_cases h3 : O.nx.length = O.pv.length
      · obtain ⟨r, hr⟩ := FrA.ex (Ar.mk O.nx [] O.hd)
        rcases hr with ⟨l, _, hl⟩ | ⟨_, hn⟩
        · by_cases he : O = ofL O.pv.length l
          · rw [hq.uniq (ChkO.good (l := l) ⟨by omega, by omega, fun i hi => by rw [← h3]; exact hl.1.lt i hi, hl.2, he⟩)]
            exact rlchk_f (by omega) (by omega) h3 hl he w h1
          · rw [hq.uniq (ChkO.bad fun l' hv => he (by rw [hl.uniq hv.freeL]; exact hv.eq))]
            exact rlchk_e (by omega) (by omega) h3 hl he w h1
        · rw [hq.uniq (ChkO.bad fun l hl => hn l hl.freeL)]
          exact rlchk_d (by omega) (by omega) h3 hn w h1
      · rw [hq.uniq (ChkO.big (Or.inr (Or.inr h3)))]
        exact rlchk_c ⟨by omega, by omega⟩ h3 w h1

set_option maxRecDepth 100000 in
set_option maxHeartbeats 6400000 in
theorem rlpl_a {v : Value} {O : Od} {p : Int} (h : ∀ l, ¬ VO O l) (w : World) (h1 : IsO w v O) : Calls Try.prog 26 #[v, .int .i64 p] w fun e w' => e = .returned (.int .i64 8) ∧ Below w.heap.size w w' := by
  have CK := fun (W : World) (u : Value) (hu9 : IsO W u O) => rlchk_is W hu9 (ChkO.bad h)
  have HO := Lib.hid h1
  obtain ⟨v1, v2, rfl, g1, g2⟩ := id h1
  obtain ⟨a1, c1, rfl, hr1⟩ := id g1; obtain ⟨a2, c2, rfl, hr2⟩ := id g2
  have m1 := hr1.most; have r1 := hr1.room; have m2 := hr2.most; have r2 := hr2.room; have H1 := Lib.hid g1; have H2 := Lib.hid g2
  clear hr1 hr2 g1 g2 h1
  have SA := Lib.hid (size_od (.slice a1 O.pv.length c1) (.slice a2 O.nx.length c2) (.int .i64 O.hd) (.int .i64 O.tl))
  go_enter Try.func26, Try.ntmps26
  go_upto_region 1 with fail
  refine F_gen (F := fun W => Code.wp _ _ _ _ W) (J := fun W => Box W (w.heap.size) ([.slice a1 O.pv.length c1, .slice a2 O.nx.length c2, .int .i64 O.hd, .int .i64 O.tl]) ∧ Below w.heap.size w W) (And.intro (Box.newc rfl rfl) (by go_grown)) ?_
  intro w0 ⟨e_a, hB0⟩
  have hs0 := hB0.size
  have x_a0 := e_a; clear e_a
  go_wp2_with (refine wpList_load_box9 rfl _ _ rfl x_a0 rfl Try.underlying24 rfl SA.out ?_)
  refine (CK _ _ (HO.out.below hB0)).mono ?_
  rintro e w1 ⟨rfl, hb⟩
  have hB1 : Below w.heap.size w w1 := below_thru hB0 hb
  have hs1 := hB1.size
  have x_a1 : Box w1 (w.heap.size) ([.slice a1 O.pv.length c1, .slice a2 O.nx.length c2, .int .i64 O.hd, .int .i64 O.tl]) := Box.below x_a0 hb
  clear hB0 hs0 x_a0
  clear hb
  go_wp2_with (refine wpList_load_box9 rfl _ _ rfl x_a1 rfl Try.underlying24 rfl SA.out ?_)
  refine (CK _ _ (HO.out.below hB1)).mono ?_
  rintro e w2 ⟨rfl, hb⟩
  have hB2 : Below w.heap.size w w2 := below_thru hB1 hb
  have hs2 := hB2.size
  have x_a2 : Box w2 (w.heap.size) ([.slice a1 O.pv.length c1, .slice a2 O.nx.length c2, .int .i64 O.hd, .int .i64 O.tl]) := Box.below x_a1 hb
  clear hB1 hs1 x_a1
  clear hb
  go_wp2_with fail
  go_returns
  exact ⟨rfl, hB2⟩

set_option maxRecDepth 100000 in
set_option maxHeartbeats 6400000 in
theorem rlpl_b {v : Value} {O : Od} {p : Int} {l : List Nat} (hV : VO O l) (hp : p < 0) (w : World) (h1 : IsO w v O) : Calls Try.prog 26 #[v, .int .i64 p] w fun e w' => e = .returned (.int .i64 2) ∧ Below w.heap.size w w' := by
  have CK := fun (W : World) (u : Value) (hu9 : IsO W u O) => rlchk_is W hu9 (ChkO.good hV)
  have d0 : decide (p < 0) = true := decide_eq_true (by omega)
  clear hp
  have HO := Lib.hid h1
  obtain ⟨v1, v2, rfl, g1, g2⟩ := id h1
  obtain ⟨a1, c1, rfl, hr1⟩ := id g1; obtain ⟨a2, c2, rfl, hr2⟩ := id g2
  have m1 := hr1.most; have r1 := hr1.room; have m2 := hr2.most; have r2 := hr2.room; have H1 := Lib.hid g1; have H2 := Lib.hid g2
  clear hr1 hr2 g1 g2 h1
  have SA := Lib.hid (size_od (.slice a1 O.pv.length c1) (.slice a2 O.nx.length c2) (.int .i64 O.hd) (.int .i64 O.tl))
  go_enter Try.func26, Try.ntmps26
  go_upto_region 1 with fail
  refine F_gen (F := fun W => Code.wp _ _ _ _ W) (J := fun W => Box W (w.heap.size) ([.slice a1 O.pv.length c1, .slice a2 O.nx.length c2, .int .i64 O.hd, .int .i64 O.tl]) ∧ Below w.heap.size w W) (And.intro (Box.newc rfl rfl) (by go_grown)) ?_
  intro w0 ⟨e_a, hB0⟩
  have hs0 := hB0.size
  have x_a0 := e_a; clear e_a
  go_wp2_with (refine wpList_load_box9 rfl _ _ rfl x_a0 rfl Try.underlying24 rfl SA.out ?_)
  refine (CK _ _ (HO.out.below hB0)).mono ?_
  rintro e w1 ⟨rfl, hb⟩
  have hB1 : Below w.heap.size w w1 := below_thru hB0 hb
  have hs1 := hB1.size
  have x_a1 : Box w1 (w.heap.size) ([.slice a1 O.pv.length c1, .slice a2 O.nx.length c2, .int .i64 O.hd, .int .i64 O.tl]) := Box.below x_a0 hb
  clear hB0 hs0 x_a0
  clear hb
  have ca := (x_a1).c 0 _ rfl
  have za := (x_a1).lt
  go_wp2_with fail
  go_returns
  exact ⟨rfl, hB1⟩

set_option maxRecDepth 100000 in
set_option maxHeartbeats 6400000 in
theorem rlpl_c {v : Value} {O : Od} {p : Int} {l : List Nat} (hV : VO O l) (hp : 0 ≤ p) (hq : (O.pv.length : Int) ≤ p) (w : World) (h1 : IsO w v O) : Calls Try.prog 26 #[v, .int .i64 p] w fun e w' => e = .returned (.int .i64 2) ∧ Below w.heap.size w w' := by
  have CK := fun (W : World) (u : Value) (hu9 : IsO W u O) => rlchk_is W hu9 (ChkO.good hV)
  have d0 : decide (p < 0) = false := decide_eq_false (by omega)
  have d1 : decide ((O.pv.length : Int) ≤ p) = true := decide_eq_true (by omega)
  clear hp hq
  have HO := Lib.hid h1
  obtain ⟨v1, v2, rfl, g1, g2⟩ := id h1
  obtain ⟨a1, c1, rfl, hr1⟩ := id g1; obtain ⟨a2, c2, rfl, hr2⟩ := id g2
  have m1 := hr1.most; have r1 := hr1.room; have m2 := hr2.most; have r2 := hr2.room; have H1 := Lib.hid g1; have H2 := Lib.hid g2
  clear hr1 hr2 g1 g2 h1
  have SA := Lib.hid (size_od (.slice a1 O.pv.length c1) (.slice a2 O.nx.length c2) (.int .i64 O.hd) (.int .i64 O.tl))
  go_enter Try.func26, Try.ntmps26
  go_upto_region 1 with fail
  refine F_gen (F := fun W => Code.wp _ _ _ _ W) (J := fun W => Box W (w.heap.size) ([.slice a1 O.pv.length c1, .slice a2 O.nx.length c2, .int .i64 O.hd, .int .i64 O.tl]) ∧ Below w.heap.size w W) (And.intro (Box.newc rfl rfl) (by go_grown)) ?_
  intro w0 ⟨e_a, hB0⟩
  have hs0 := hB0.size
  have x_a0 := e_a; clear e_a
  go_wp2_with (refine wpList_load_box9 rfl _ _ rfl x_a0 rfl Try.underlying24 rfl SA.out ?_)
  refine (CK _ _ (HO.out.below hB0)).mono ?_
  rintro e w1 ⟨rfl, hb⟩
  have hB1 : Below w.heap.size w w1 := below_thru hB0 hb
  have hs1 := hB1.size
  have x_a1 : Box w1 (w.heap.size) ([.slice a1 O.pv.length c1, .slice a2 O.nx.length c2, .int .i64 O.hd, .int .i64 O.tl]) := Box.below x_a0 hb
  clear hB0 hs0 x_a0
  clear hb
  have ca := (x_a1).c 0 _ rfl
  have za := (x_a1).lt
  go_wp2_with fail
  go_returns
  exact ⟨rfl, hB1⟩

set_option maxRecDepth 100000 in
set_option maxHeartbeats 6400000 in
theorem rlpl_d {v : Value} {O : Od} {p : Int} {l : List Nat} (hV : VO O l) (hp : 0 ≤ p) (hq : p < (O.pv.length : Int)) (w : World) (h1 : IsO w v O) : Calls Try.prog 26 #[v, .int .i64 p] w fun e w' => e = .returned (.int .i64 0) ∧ Below w.heap.size w w' := by
  have CK := fun (W : World) (u : Value) (hu9 : IsO W u O) => rlchk_is W hu9 (ChkO.good hV)
  have d0 : decide (p < 0) = false := decide_eq_false (by omega)
  have d1 : decide ((O.pv.length : Int) ≤ p) = false := decide_eq_false (by omega)
  clear hp hq
  have HO := Lib.hid h1
  obtain ⟨v1, v2, rfl, g1, g2⟩ := id h1
  obtain ⟨a1, c1, rfl, hr1⟩ := id g1; obtain ⟨a2, c2, rfl, hr2⟩ := id g2
  have m1 := hr1.most; have r1 := hr1.room; have m2 := hr2.most; have r2 := hr2.room; have H1 := Lib.hid g1; have H2 := Lib.hid g2
  clear hr1 hr2 g1 g2 h1
  have SA := Lib.hid (size_od (.slice a1 O.pv.length c1) (.slice a2 O.nx.length c2) (.int .i64 O.hd) (.int .i64 O.tl))
  go_enter Try.func26, Try.ntmps26
  go_upto_region 1 with fail
  refine F_gen (F := fun W => Code.wp _ _ _ _ W) (J := fun W => Box W (w.heap.size) ([.slice a1 O.pv.length c1, .slice a2 O.nx.length c2, .int .i64 O.hd, .int .i64 O.tl]) ∧ Below w.heap.size w W) (And.intro (Box.newc rfl rfl) (by go_grown)) ?_
  intro w0 ⟨e_a, hB0⟩
  have hs0 := hB0.size
  have x_a0 := e_a; clear e_a
  go_wp2_with (refine wpList_load_box9 rfl _ _ rfl x_a0 rfl Try.underlying24 rfl SA.out ?_)
  refine (CK _ _ (HO.out.below hB0)).mono ?_
  rintro e w1 ⟨rfl, hb⟩
  have hB1 : Below w.heap.size w w1 := below_thru hB0 hb
  have hs1 := hB1.size
  have x_a1 : Box w1 (w.heap.size) ([.slice a1 O.pv.length c1, .slice a2 O.nx.length c2, .int .i64 O.hd, .int .i64 O.tl]) := Box.below x_a0 hb
  clear hB0 hs0 x_a0
  clear hb
  have ca := (x_a1).c 0 _ rfl
  have za := (x_a1).lt
  go_wp2_with fail
  go_returns
  exact ⟨rfl, hB1⟩

/-- What Place answers. -/
def PlO (O : Od) (p q : Int) : Prop := (q = 8 ∧ ∀ l, ¬ VO O l) ∨ (∃ l, VO O l ∧ ((q = 2 ∧ (p < 0 ∨ (O.pv.length : Int) ≤ p)) ∨ (q = 0 ∧ 0 ≤ p ∧ p < (O.pv.length : Int))))
theorem PlO.ex (O : Od) (p : Int) : ∃ q, PlO O p q := by
  by_cases h : ∃ l, VO O l
  · obtain ⟨l, hl⟩ := h
    by_cases hp : p < 0 ∨ (O.pv.length : Int) ≤ p
    · exact ⟨_, Or.inr ⟨l, hl, Or.inl ⟨rfl, hp⟩⟩⟩
    · exact ⟨_, Or.inr ⟨l, hl, Or.inr ⟨rfl, by omega, by omega⟩⟩⟩
  · exact ⟨_, Or.inl ⟨rfl, not_VO h⟩⟩
theorem rlplace_is {v : Value} {O : Od} {p q : Int} (h : PlO O p q) (w : World) (h1 : IsO w v O) : Calls Try.prog 26 #[v, .int .i64 p] w fun e w' => e = .returned (.int .i64 q) ∧ Below w.heap.size w w' := by
  rcases h with ⟨rfl, h⟩ | ⟨l, hV, ⟨rfl, hp⟩ | ⟨rfl, h2, h3⟩⟩
  · exact rlpl_a h w h1
  · by_cases h0 : p < 0
    · exact rlpl_b hV h0 w h1
    · exact rlpl_c hV (by omega) (by omega) w h1
  · exact rlpl_d hV h2 h3 w h1

set_option maxRecDepth 100000 in
set_option maxHeartbeats 6400000 in
theorem rlnew_a {p : Int} (h : p < 1) (w : World) : Calls Try.prog 11 #[.int .i64 p] w fun e w' => ∃ v, e = .returned (.tuple #[v, .int .i64 2]) ∧ ResO Od.zero w v w' := by
  have d0 : decide (p < 1) = true := decide_eq_true (by omega)
  have BI := fun W => build_od0 W; clear h
  go_enter Try.func11, Try.ntmps11
  go_upto_region 1 with fail
  refine F_gen (F := fun W => Code.wp _ _ _ _ W) (J := fun W => Box W (w.heap.size) (od0) ∧ Below w.heap.size w W) (And.intro (Box.newc rfl rfl) (by go_grown)) ?_
  intro w0 ⟨e_r, hB0⟩
  have hs0 := hB0.size
  have x_r0 := e_r; clear e_r
  have lq := (x_r0).lt
  go_wp2_with (first | (refine wpList_build9 rfl 24 _ rfl (us := #[]) (by rfl) (BI _) ?_) | (refine wpList_store_box (cs := od0) rfl _ _ _ rfl x_r0 rfl rfl size_od0 rfl one_od0 ?_; intro W99 hW99))
  exact bodyPost_ret (results_box2 Try.results11 hW99.box rfl rfl Try.underlying24 rfl size_od0) rfl ⟨_, rfl, isO_zero _, freshO_zero _, hW99.below _ _ (by omega) hB0⟩

set_option maxRecDepth 100000 in
set_option maxHeartbeats 6400000 in
theorem rlnew_b {p : Int} (h : 16 < p) (w : World) : Calls Try.prog 11 #[.int .i64 p] w fun e w' => ∃ v, e = .returned (.tuple #[v, .int .i64 2]) ∧ ResO Od.zero w v w' := by
  have d0 : decide (p < 1) = false := decide_eq_false (by omega)
  have d1 : decide (16 < p) = true := decide_eq_true (by omega)
  have BI := fun W => build_od0 W; clear h
  go_enter Try.func11, Try.ntmps11
  go_upto_region 1 with fail
  refine F_gen (F := fun W => Code.wp _ _ _ _ W) (J := fun W => Box W (w.heap.size) (od0) ∧ Below w.heap.size w W) (And.intro (Box.newc rfl rfl) (by go_grown)) ?_
  intro w0 ⟨e_r, hB0⟩
  have hs0 := hB0.size
  have x_r0 := e_r; clear e_r
  have lq := (x_r0).lt
  go_wp2_with (first | (refine wpList_build9 rfl 24 _ rfl (us := #[]) (by rfl) (BI _) ?_) | (refine wpList_store_box (cs := od0) rfl _ _ _ rfl x_r0 rfl rfl size_od0 rfl one_od0 ?_; intro W99 hW99))
  exact bodyPost_ret (results_box2 Try.results11 hW99.box rfl rfl Try.underlying24 rfl size_od0) rfl ⟨_, rfl, isO_zero _, freshO_zero _, hW99.below _ _ (by omega) hB0⟩

set_option maxRecDepth 100000 in
set_option maxHeartbeats 6400000 in
theorem rlnew_c {n : Nat} (h1 : 1 ≤ n) (h2 : n ≤ 16) (w : World) : Calls Try.prog 11 #[.int .i64 (n : Int)] w fun e w' => ∃ v, e = .returned (.tuple #[v, .int .i64 0]) ∧ ResO (ofL n []) w v w' := by
  have d0 : decide ((n : Int) < 1) = false := decide_eq_false (by omega)
  have d1 : decide (16 < (n : Int)) = false := decide_eq_false (by omega)
  have MD := fun (W : World) => rlmade_is (n := n) (l := []) h1 (by omega) List.nodup_nil (fun _ h => (by cases h)) W IsR.none
  go_enter Try.func11, Try.ntmps11
  go_upto_region 1 with fail
  refine F_gen (F := fun W => Code.wp _ _ _ _ W) (J := fun W => Box W (w.heap.size) (od0) ∧ Below w.heap.size w W) (And.intro (Box.newc rfl rfl) (by go_grown)) ?_
  intro w0 ⟨e_r, hB0⟩
  have hs0 := hB0.size
  have x_r0 := e_r; clear e_r
  go_wp2_with fail
  refine (MD _).mono ?_
  rintro e w1 ⟨u, rfl, hI, hF, hb⟩
  obtain ⟨x1, y1, rfl, rx, ry⟩ := id hI; obtain ⟨px, cx, rfl, hrx⟩ := id rx; obtain ⟨py, cy, rfl, hry⟩ := id ry; clear hrx hry rx ry
  have lz := (x_r0).lt; have ho := hF.off (b := w.heap.size) (by omega); have hF2 := hF.base (m := w.heap.size) (by omega); clear lz hF
  have hB1 : Below w.heap.size w w1 := below_thru hB0 hb
  have hs1 := hB1.size
  have x_r1 : Box w1 (w.heap.size) (od0) := Box.below x_r0 hb
  clear hB0 hs0 x_r0
  clear hb; have HI := Lib.hid hI; have HOF := Lib.hid ho; have HF2 := Lib.hid hF2; clear hI ho hF2
  have lq := (x_r1).lt
  go_wp2_with (refine wpList_store_box (cs := [.slice px (ofL n []).pv.length cx, .slice py (ofL n []).nx.length cy, .int .i64 (ofL n []).hd, .int .i64 (ofL n []).tl]) rfl _ _ _ rfl x_r1 rfl rfl (size_od _ _ _ _) rfl (one_od _ _ _ _ _ _ _ _) ?_; intro W99 hW99)
  exact bodyPost_ret (results_box2 Try.results11 hW99.box rfl rfl Try.underlying24 rfl (size_od _ _ _ _)) rfl ⟨_, rfl, IsO.stored hW99 HI.out HOF.out, HF2.out, hW99.below _ _ (by omega) hB1⟩

theorem rlnew_is {p : Int} {R : Od} {q : Int} (h : NwO p R q) (w : World) : Calls Try.prog 11 #[.int .i64 p] w fun e w' => ∃ v, e = .returned (.tuple #[v, .int .i64 q]) ∧ ResO R w v w' := by
  rcases h with ⟨rfl, h | h, rfl⟩ | ⟨rfl, n, rfl, h1, h2, rfl⟩
  · exact rlnew_a h w
  · exact rlnew_b h w
  · exact rlnew_c h1 h2 w


end Go.Proofs.Ytjhlpkkefdohjaa
