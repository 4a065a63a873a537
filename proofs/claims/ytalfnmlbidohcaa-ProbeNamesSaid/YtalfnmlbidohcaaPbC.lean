/-
  Package probe, walked: Find, Steps, Put.
-/
import Derived.Test.YtalfnmlbidohcaaPbB
namespace Go.Proofs.Ytalfnmlbidohcaa
open Go.RowKit

theorem flatX_cut {α : Type} {L : Lay α} {xs : List α} {k : Nat} (h : k < xs.length) : flatR L xs = flatR L (xs.take k) ++ (L.f xs[k] ++ flatR L (xs.drop (k + 1))) := by
  have e0 : xs = xs.take k ++ xs[k] :: xs.drop (k + 1) := by rw [← List.drop_eq_getElem_cons h, List.take_append_drop]
  have e1 := congrArg (flatR L) e0
  rw [flatR_app] at e1
  rw [e1]
  congr 1
theorem flatX_upd {α : Type} {L : Lay α} {xs : List α} {k : Nat} (h : k < xs.length) (y : α) : flatR L (xs.set k y) = (flatR L xs).take (k * L.s) ++ L.f y ++ (flatR L xs).drop (k * L.s + (L.f y).length) := by
  have e1 := flatX_cut (L := L) h
  have l1 : (flatR L (xs.take k)).length = k * L.s := by rw [flatR_len, List.length_take]; congr 1; omega
  have e2 : flatR L (xs.set k y) = flatR L (xs.take k) ++ (L.f y ++ flatR L (xs.drop (k + 1))) := by
    rw [List.set_eq_take_append_cons_drop, if_pos h, flatR_app]
    unfold flatR
    simp
  rw [e2, e1]
  generalize flatR L (xs.take k) = A at *
  generalize flatR L (xs.drop (k + 1)) = C at *
  rw [List.take_left' l1, ← List.drop_drop, List.drop_left' l1, List.drop_left' (by rw [L.len, L.len]), List.append_assoc]
theorem flat16 {x : List Cel} (hl : x.length = 16) : (flatR LCel x).length = 48 := by rw [flatR_len, hl]; rfl
theorem upd16 {x : List Cel} (hl : x.length = 16) {j : Nat} (hj : j < 16) (K Q : Int) (U : Bool) : flatR LCel (x.set j ⟨K, Q, U⟩) = (flatR LCel x).take (j * 3) ++ [.int .u32 K, .int .i64 Q, .bool U] ++ (flatR LCel x).drop (j * 3 + [Value.int .u32 K, .int .i64 Q, .bool U].length) := flatX_upd (L := LCel) (by omega) ⟨K, Q, U⟩
theorem Box.cells {w : World} {g : Nat} {x : List Cel} (h : Box w g (flatR LCel x)) (hl : x.length = 16) : Cells w g 0 x := fun i hi => by
  have hc := cel_at (x := x) (i := i) (by omega)
  have h0 := h.c _ _ (flatR_at (L := LCel) (j := 0) hc rfl)
  have h1 := h.c _ _ (flatR_at (L := LCel) (j := 1) hc rfl)
  have h2 := h.c _ _ (flatR_at (L := LCel) (j := 2) hc rfl)
  simp only [Nat.zero_add]
  exact ⟨h0, h1, h2⟩
/-- A row of 16 cells of the call's own. -/
def RowC (w : World) (B : Nat) (v : Value) (y : List Cel) : Prop := y.length = 16 ∧ ∃ g c, v = .slice (some ⟨g, 0, none⟩) 16 c ∧ B ≤ g ∧ 16 ≤ c ∧ c ≤ 9223372036854775807 ∧ Box w g (flatR LCel y) ∧ Ty w g 42
/-- What Put and Drop return. -/
def RowX (w : World) (B : Nat) (v : Value) (y : List Cel) : Prop := (y = [] ∧ v = .slice none 0 0) ∨ RowC w B v y
theorem RowC.isR {w : World} {B : Nat} {v : Value} {y : List Cel} (h : RowC w B v y) : IsR LCel w v y := by
  obtain ⟨hl, g, c, rfl, _, h1, h2, hb, _⟩ := h
  exact IsR.ofBoxc hb rfl hl.symm h1 h2
theorem RowX.isR {w : World} {B : Nat} {v : Value} {y : List Cel} (h : RowX w B v y) : IsR LCel w v y := by
  rcases h with ⟨rfl, rfl⟩ | h
  · exact IsR.none
  · exact h.isR
theorem RowC.below {w w' : World} {B : Nat} {v : Value} {y : List Cel} (h : RowC w B v y) (hb : Below w.heap.size w w') : RowC w' B v y := by
  obtain ⟨hl, g, c, e, h0, h1, h2, hx, ht⟩ := h
  exact ⟨hl, g, c, e, h0, h1, h2, hx.below hb, ht.below hb⟩
theorem RowX.below {w w' : World} {B : Nat} {v : Value} {y : List Cel} (h : RowX w B v y) (hb : Below w.heap.size w w') : RowX w' B v y := by
  rcases h with h | h
  · exact Or.inl h
  · exact Or.inr (h.below hb)
theorem RowC.own {w : World} {B : Nat} {v : Value} {y : List Cel} (h : w.ownsRow B 42 3 v 16 (flatR LCel y)) (hl : y.length = 16) : RowC w B v y := by
  obtain ⟨g, c, e, h0, h1, h2, hx⟩ := own_box h (by decide)
  refine ⟨hl, g, c, e, h0, h1, h2, hx, ?_⟩
  subst e
  rcases h.2 with ⟨q, _⟩ | ⟨g', cap, cur, q, _, hg, _⟩
  · cases q
  · cases q
    exact ⟨_, _, hg⟩
theorem RowX.base {w : World} {B B' : Nat} {v : Value} {y : List Cel} (h : RowX w B v y) (hB : B' ≤ B) : RowX w B' v y := by
  rcases h with h | ⟨hl, g, c, e, h0, h1⟩
  · exact Or.inl h
  · exact Or.inr ⟨hl, g, c, e, by omega, h1⟩
theorem wpList_store_partT {P : Program} {ops : Array Oper} {rest : List Oper} {o : Oper} {a : Act} {w : World} {Q : Exit → Act → World → Prop} (hgd : o.guard = none) (ty : TypeId) (x y : Operand) (ho : o.op = .store ty x y) {b k : Nat} {us cs ws : List Value} (hb : Box w b us) (hx : a.eval x = .pointer (some ⟨b, k, none⟩)) (hy : a.eval y = .agg cs.toArray)
    (hi : (P.info? ty).map (·.size) = some cs.length) (hk : k + cs.length ≤ us.length) (hw : ws = us.take k ++ cs ++ us.drop (k + cs.length)) (h1 : cs.toArray.all (·.oneCell') = true)
    (h : ∀ W, Stored w b ws W → (∀ T, Ty w b T → Ty W b T) → wpList P ops Q rest (a.put o.dst undef) W) : wpList P ops Q (o :: rest) a w :=
  wpList_store_mid hgd ty x y ho b k cs.toArray hx hy (by simpa using hb.thereAt k cs.length hk) (by simpa using hi) h1 (h _ (Stored.part hb hk hw) (fun T hT => Ty.setCells b _ _ _ hT))
theorem info_cel : (Try.prog.info? 42).map (fun i => (i.zero, i.size, i.bytes)) = some (some (.agg celz.toArray), 3, 24) := by kernel_rfl
theorem build_cel (K Q : Int) (U : Bool) (W : World) : (Instr.build 42 #[(0, .int .u32 K), (1, .int .i64 Q), (2, .bool U)]).run Try.prog W = .ok (.agg [.int .u32 K, .int .i64 Q, .bool U].toArray) W := by kernel_rfl

set_option maxRecDepth 100000 in
set_option maxHeartbeats 6400000 in
theorem pfind_a {v : Value} {x : List Cel} {key : Int} (hv : ¬ Valid x) (w : World) (h1 : IsR LCel w v x) : Calls Try.prog 9 #[v, .int .u32 key] w fun e w' => e = .returned (.tuple #[.int .i64 0, .int .i64 8]) ∧ Below w.heap.size w w' := by
  have H1 := Lib.hid h1; have CK := fun (W : World) (u : Value) (h : IsR LCel W u x) => pchk_is (q := 8) W h (Or.inr ⟨rfl, hv⟩)
  clear h1 hv
  have hB0 := Below.refl w.heap.size w
  have hs0 := hB0.size
  go_enter Try.func9, Try.ntmps9
  go_wp2_with fail
  refine (CK _ _ (H1.out.below hB0)).mono ?_
  rintro e w1 ⟨rfl, hb⟩
  have hB1 : Below w.heap.size w w1 := below_thru hB0 hb
  have hs1 := hB1.size
  clear hB0 hs0
  clear hb
  go_wp2_with fail
  go_returns
  exact ⟨rfl, hB1⟩

set_option maxRecDepth 100000 in
set_option maxHeartbeats 6400000 in
theorem pfind_b {v : Value} {x : List Cel} {key : Int} {n : Nat} (hv : Valid x) (hn : Look x key n) (hu : (cel x (lst key n)).u = false) (w : World) (h1 : IsR LCel w v x) : Calls Try.prog 9 #[v, .int .u32 key] w fun e w' => e = .returned (.tuple #[.int .i64 0, .int .i64 6]) ∧ Below w.heap.size w w' := by
  have PL := fun (W : World) (u : Value) (h : IsR LCel W u x) => plook_is hv.len hn W h; obtain ⟨j, hj⟩ : ∃ j, lst key n = j := ⟨_, rfl⟩; have j16 := lst_lt key n; rw [hj] at PL hu j16; have j0 : (0 : Int) ≤ (j : Int) := (by omega); have j1 : (j : Int) < 16 := (by omega)
  have H1 := Lib.hid h1; have CK := fun (W : World) (u : Value) (h : IsR LCel W u x) => pchk_is (q := 0) W h (Or.inl ⟨rfl, hv⟩)
  have hl := hv.len
  obtain ⟨b, o, c, rfl, hc1C, hc2C, hC⟩ := IsR.open16 h1 hl; have C := Lib.hid hC; clear hC
  clear h1
  clear hl hv hn hj
  have hB0 := Below.refl w.heap.size w
  have hs0 := hB0.size
  go_enter Try.func9, Try.ntmps9
  go_wp2_with fail
  refine (CK _ _ (H1.out.below hB0)).mono ?_
  rintro e w1 ⟨rfl, hb⟩
  have hB1 : Below w.heap.size w w1 := below_thru hB0 hb
  have hs1 := hB1.size
  clear hB0 hs0
  clear hb
  go_wp2_with fail
  refine (PL _ _ (H1.out.below hB1)).mono ?_
  rintro e w2 ⟨rfl, hb⟩
  have hB2 : Below w.heap.size w w2 := below_thru hB1 hb
  have hs2 := hB2.size
  clear hB1 hs1
  clear hb
  have R := (C.out.below hB2) j j16; have r3 := R.2.2; have zr := lt_of_cell r3; clear R; rw [hu] at r3; clear hu
  go_wp2_with fail
  go_returns
  exact ⟨rfl, hB2⟩

set_option maxRecDepth 100000 in
set_option maxHeartbeats 6400000 in
theorem pfind_c {v : Value} {x : List Cel} {key : Int} {n : Nat} (hv : Valid x) (hn : Look x key n) (hu : (cel x (lst key n)).u = true) (w : World) (h1 : IsR LCel w v x) : Calls Try.prog 9 #[v, .int .u32 key] w fun e w' => e = .returned (.tuple #[.int .i64 (cel x (lst key n)).p, .int .i64 0]) ∧ Below w.heap.size w w' := by
  have PL := fun (W : World) (u : Value) (h : IsR LCel W u x) => plook_is hv.len hn W h; obtain ⟨j, hj⟩ : ∃ j, lst key n = j := ⟨_, rfl⟩; have j16 := lst_lt key n; rw [hj] at PL hu j16; have j0 : (0 : Int) ≤ (j : Int) := (by omega); have j1 : (j : Int) < 16 := (by omega)
  rw [hj]; obtain ⟨p, hp⟩ : ∃ p, (cel x j).p = p := ⟨_, rfl⟩; rw [hp]; have HP := Lib.hid hp; clear hp
  have H1 := Lib.hid h1; have CK := fun (W : World) (u : Value) (h : IsR LCel W u x) => pchk_is (q := 0) W h (Or.inl ⟨rfl, hv⟩)
  have hl := hv.len
  obtain ⟨b, o, c, rfl, hc1C, hc2C, hC⟩ := IsR.open16 h1 hl; have C := Lib.hid hC; clear hC
  clear h1
  clear hl hv hn hj
  have hB0 := Below.refl w.heap.size w
  have hs0 := hB0.size
  go_enter Try.func9, Try.ntmps9
  go_wp2_with fail
  refine (CK _ _ (H1.out.below hB0)).mono ?_
  rintro e w1 ⟨rfl, hb⟩
  have hB1 : Below w.heap.size w w1 := below_thru hB0 hb
  have hs1 := hB1.size
  clear hB0 hs0
  clear hb
  go_wp2_with fail
  refine (PL _ _ (H1.out.below hB1)).mono ?_
  rintro e w2 ⟨rfl, hb⟩
  have hB2 : Below w.heap.size w w2 := below_thru hB1 hb
  have hs2 := hB2.size
  clear hB1 hs1
  clear hb
  have R := (C.out.below hB2) j j16; have r2 := R.2.1; have r3 := R.2.2; have zr := lt_of_cell r3; clear R; rw [hu] at r3; clear hu
  rw [HP.out] at r2
  go_wp2_with fail
  go_returns
  exact ⟨rfl, hB2⟩

theorem pfind_is {v : Value} {x : List Cel} {key p q : Int} (hq : FndX x key p q) (w : World) (h1 : IsR LCel w v x) : Calls Try.prog 9 #[v, .int .u32 key] w fun e w' => e = .returned (.tuple #[.int .i64 p, .int .i64 q]) ∧ Below w.heap.size w w' := by
  rcases hq with ⟨rfl, rfl, hv⟩ | ⟨hv, rfl, rfl, hn⟩ | ⟨hv, rfl, i, hi, rfl⟩
  · exact pfind_a hv w h1
  · obtain ⟨n, h2, _, h3⟩ := hv.look_none hn
    exact pfind_b hv h2 h3 w h1
  · obtain ⟨n, h2, _, rfl⟩ := hv.look_has hi
    exact pfind_c hv h2 hi.2.1 w h1

set_option maxRecDepth 100000 in
set_option maxHeartbeats 6400000 in
theorem pstep_a {v : Value} {x : List Cel} {key : Int} (hv : ¬ Valid x) (w : World) (h1 : IsR LCel w v x) : Calls Try.prog 11 #[v, .int .u32 key] w fun e w' => e = .returned (.tuple #[.int .i64 0, .int .i64 8]) ∧ Below w.heap.size w w' := by
  have H1 := Lib.hid h1; have CK := fun (W : World) (u : Value) (h : IsR LCel W u x) => pchk_is (q := 8) W h (Or.inr ⟨rfl, hv⟩)
  clear h1 hv
  have hB0 := Below.refl w.heap.size w
  have hs0 := hB0.size
  go_enter Try.func11, Try.ntmps11
  go_wp2_with fail
  refine (CK _ _ (H1.out.below hB0)).mono ?_
  rintro e w1 ⟨rfl, hb⟩
  have hB1 : Below w.heap.size w w1 := below_thru hB0 hb
  have hs1 := hB1.size
  clear hB0 hs0
  clear hb
  go_wp2_with fail
  go_returns
  exact ⟨rfl, hB1⟩

set_option maxRecDepth 100000 in
set_option maxHeartbeats 6400000 in
theorem pstep_b {v : Value} {x : List Cel} {key : Int} {n : Nat} (hv : Valid x) (hn : Look x key n) (w : World) (h1 : IsR LCel w v x) : Calls Try.prog 11 #[v, .int .u32 key] w fun e w' => e = .returned (.tuple #[.int .i64 ((n + 1 : Nat) : Int), .int .i64 0]) ∧ Below w.heap.size w w' := by
  have PL := fun (W : World) (u : Value) (h : IsR LCel W u x) => plook_is hv.len hn W h; obtain ⟨m, hm⟩ : ∃ m : Int, ((n + 1 : Nat) : Int) = m := ⟨_, rfl⟩; rw [hm] at PL ⊢
  have H1 := Lib.hid h1; have CK := fun (W : World) (u : Value) (h : IsR LCel W u x) => pchk_is (q := 0) W h (Or.inl ⟨rfl, hv⟩)
  have hl := hv.len
  obtain ⟨b, o, c, rfl, hc1C, hc2C, hC⟩ := IsR.open16 h1 hl; have C := Lib.hid hC; clear hC
  clear h1
  clear hl hv hn hm C
  have hB0 := Below.refl w.heap.size w
  have hs0 := hB0.size
  go_enter Try.func11, Try.ntmps11
  go_wp2_with fail
  refine (CK _ _ (H1.out.below hB0)).mono ?_
  rintro e w1 ⟨rfl, hb⟩
  have hB1 : Below w.heap.size w w1 := below_thru hB0 hb
  have hs1 := hB1.size
  clear hB0 hs0
  clear hb
  go_wp2_with fail
  refine (PL _ _ (H1.out.below hB1)).mono ?_
  rintro e w2 ⟨rfl, hb⟩
  have hB2 : Below w.heap.size w w2 := below_thru hB1 hb
  have hs2 := hB2.size
  clear hB1 hs1
  clear hb
  go_wp2_with fail
  go_returns
  exact ⟨rfl, hB2⟩

theorem pstep_is {v : Value} {x : List Cel} {key n q : Int} (hq : StpX x key n q) (w : World) (h1 : IsR LCel w v x) : Calls Try.prog 11 #[v, .int .u32 key] w fun e w' => e = .returned (.tuple #[.int .i64 n, .int .i64 q]) ∧ Below w.heap.size w w' := by
  rcases hq with ⟨rfl, rfl, hv⟩ | ⟨hv, rfl, m, hm, rfl⟩
  · exact pstep_a hv w h1
  · exact pstep_b hv hm w h1

theorem pclx_seq (ad : Addr) (n c : Nat) (W : World) : (binOp .eql 22 (.slice (some ad) n c) (.slice none 0 0)).run Try.prog W = .ok (.bool false) W := by kernel_rfl
set_option maxRecDepth 100000 in
set_option maxHeartbeats 6400000 in
theorem pclx_is {v : Value} {x : List Cel} (hl : x.length = 16) (w : World) (h1 : IsR LCel w v x) : Calls Try.prog 30 #[v] w fun e w' => ∃ u, e = .returned u ∧ RowC w' w.heap.size u x ∧ Below w.heap.size w w' := by
  have H1 := Lib.hid h1; obtain ⟨b, o, c, rfl, _⟩ := IsR.open16 h1 hl; have HL := Lib.hid hl; clear h1 hl
  obtain ⟨ti, hin, hz0, hz1, hz2⟩ := info_parts info_cel
  have hq := pclx_seq ⟨b, o, none⟩ 16 c
  have LE : (w.alloc (.cells #[] 42)).ownsRow w.heap.size 42 3 (.slice (some ⟨w.heap.size, 0, none⟩) 0 0) 0 [] := ownR_built (L := LCel) (c := #[]) (n := 0) (m := 0) [] rfl rfl rfl rfl rfl (by decide)
  have XS : IsR LCel (w.alloc (.cells #[] 42)) (.slice (some ⟨b, o, none⟩) 16 c) x := H1.out.alloc _
  go_enter Try.func30, Try.ntmps30
  go_wp2_with (at_builtin; refine wpList_append_rows rfl LCel _ _ 22 rfl w.heap.size 42 ti (.agg celz.toArray) 3 24 rfl Try.underlying22 hin hz0 hz1 hz2 rfl _ 0 _ rfl LE _ x rfl XS (by have := HL.out; unfold maxLen; omega) (by have := HL.out; omega) (by simp) ?_; intro v40 w40 own4 gr4)
  go_returns
  refine ⟨_, rfl, RowC.own ?_ HL.out, ?_⟩
  · have := own4
    rw [Nat.zero_add, List.nil_append, HL.out] at this
    exact this
  · exact ((Below.refl _ w).alloc (Nat.le_refl _) _).grown gr4 (by simp) (ownR_block LE)

set_option maxRecDepth 100000 in
set_option maxHeartbeats 6400000 in
theorem pput_a {v : Value} {x : List Cel} {key p : Int} (hv : ¬ Valid x) (w : World) (h1 : IsR LCel w v x) : Calls Try.prog 17 #[v, .int .u32 key, .int .i64 p] w fun e w' => ∃ u, e = .returned (.tuple #[u, .int .i64 8]) ∧ RowX w' w.heap.size u [] ∧ Below w.heap.size w w' := by
  have H1 := Lib.hid h1; have CK := fun (W : World) (u : Value) (h : IsR LCel W u x) => pchk_is (q := 8) W h (Or.inr ⟨rfl, hv⟩)
  clear h1 hv
  have hB0 := Below.refl w.heap.size w
  have hs0 := hB0.size
  go_enter Try.func17, Try.ntmps17
  go_wp2_with fail
  refine (CK _ _ (H1.out.below hB0)).mono ?_
  rintro e w1 ⟨rfl, hb⟩
  have hB1 : Below w.heap.size w w1 := below_thru hB0 hb
  have hs1 := hB1.size
  clear hB0 hs0
  clear hb
  go_wp2_with fail
  go_returns
  exact ⟨_, rfl, Or.inl ⟨rfl, rfl⟩, hB1⟩

set_option maxRecDepth 100000 in
set_option maxHeartbeats 6400000 in
theorem pput_b {v : Value} {x : List Cel} {key p : Int} (hv : Valid x) (hp : ¬ (0 ≤ p ∧ p < 16)) (w : World) (h1 : IsR LCel w v x) : Calls Try.prog 17 #[v, .int .u32 key, .int .i64 p] w fun e w' => ∃ u, e = .returned (.tuple #[u, .int .i64 2]) ∧ RowX w' w.heap.size u [] ∧ Below w.heap.size w w' := by
  have H1 := Lib.hid h1; have CK := fun (W : World) (u : Value) (h : IsR LCel W u x) => pchk_is (q := 0) W h (Or.inl ⟨rfl, hv⟩)
  have hl := hv.len
  obtain ⟨b, o, c, rfl, hc1C, hc2C, hC⟩ := IsR.open16 h1 hl; have C := Lib.hid hC; clear hC
  clear h1
  have PP := fun W => ppl_is (p := p) (b := false) ⟨fun h => (Bool.false_ne_true h).elim, fun h => absurd h hp⟩ W; clear hp
  clear hl hv C
  have hB0 := Below.refl w.heap.size w
  have hs0 := hB0.size
  go_enter Try.func17, Try.ntmps17
  go_wp2_with fail
  refine (CK _ _ (H1.out.below hB0)).mono ?_
  rintro e w1 ⟨rfl, hb⟩
  have hB1 : Below w.heap.size w w1 := below_thru hB0 hb
  have hs1 := hB1.size
  clear hB0 hs0
  clear hb
  go_wp2_with fail
  refine (PP _).mono ?_
  rintro e w2 ⟨rfl, hb⟩
  have hB2 : Below w.heap.size w w2 := below_thru hB1 hb
  have hs2 := hB2.size
  clear hB1 hs1
  clear hb
  go_wp2_with fail
  go_returns
  exact ⟨_, rfl, Or.inl ⟨rfl, rfl⟩, hB2⟩

set_option maxRecDepth 100000 in
set_option maxHeartbeats 6400000 in
theorem pput_c {v : Value} {x : List Cel} {key p : Int} {n : Nat} (hv : Valid x) (hp : 0 ≤ p ∧ p < 16) (hn : Look x key n) (hu : (cel x (lst key n)).u = true) (w : World) (h1 : IsR LCel w v x) : Calls Try.prog 17 #[v, .int .u32 key, .int .i64 p] w fun e w' => ∃ u, e = .returned (.tuple #[u, .int .i64 14]) ∧ RowX w' w.heap.size u [] ∧ Below w.heap.size w w' := by
  have PL := fun (W : World) (u : Value) (h : IsR LCel W u x) => plook_is hv.len hn W h; obtain ⟨j, hj⟩ : ∃ j, lst key n = j := ⟨_, rfl⟩; have j16 := lst_lt key n; rw [hj] at PL hu j16; have j0 : (0 : Int) ≤ (j : Int) := (by omega); have j1 : (j : Int) < 16 := (by omega)
  have H1 := Lib.hid h1; have CK := fun (W : World) (u : Value) (h : IsR LCel W u x) => pchk_is (q := 0) W h (Or.inl ⟨rfl, hv⟩)
  have hl := hv.len
  obtain ⟨b, o, c, rfl, hc1C, hc2C, hC⟩ := IsR.open16 h1 hl; have C := Lib.hid hC; clear hC
  clear h1
  have PP := fun W => ppl_is (p := p) (b := true) ⟨fun _ => hp, fun _ => rfl⟩ W; clear hp
  clear hl hv hn hj
  have hB0 := Below.refl w.heap.size w
  have hs0 := hB0.size
  go_enter Try.func17, Try.ntmps17
  go_wp2_with fail
  refine (CK _ _ (H1.out.below hB0)).mono ?_
  rintro e w1 ⟨rfl, hb⟩
  have hB1 : Below w.heap.size w w1 := below_thru hB0 hb
  have hs1 := hB1.size
  clear hB0 hs0
  clear hb
  go_wp2_with fail
  refine (PP _).mono ?_
  rintro e w2 ⟨rfl, hb⟩
  have hB2 : Below w.heap.size w w2 := below_thru hB1 hb
  have hs2 := hB2.size
  clear hB1 hs1
  clear hb
  go_wp2_with fail
  refine (PL _ _ (H1.out.below hB2)).mono ?_
  rintro e w3 ⟨rfl, hb⟩
  have hB3 : Below w.heap.size w w3 := below_thru hB2 hb
  have hs3 := hB3.size
  clear hB2 hs2
  clear hb
  have R := (C.out.below hB3) j j16; have r3 := R.2.2; have zr := lt_of_cell r3; clear R; rw [hu] at r3; clear hu
  go_wp2_with fail
  go_returns
  exact ⟨_, rfl, Or.inl ⟨rfl, rfl⟩, hB3⟩

set_option maxRecDepth 100000 in
set_option maxHeartbeats 6400000 in
theorem pput_d {v : Value} {x : List Cel} {key p : Int} {n : Nat} (hv : Valid x) (hp : 0 ≤ p ∧ p < 16) (hn : Look x key n) (hu : (cel x (lst key n)).u = false) (hc : cnt x = 12) (w : World) (h1 : IsR LCel w v x) : Calls Try.prog 17 #[v, .int .u32 key, .int .i64 p] w fun e w' => ∃ u, e = .returned (.tuple #[u, .int .i64 18]) ∧ RowX w' w.heap.size u [] ∧ Below w.heap.size w w' := by
  have PL := fun (W : World) (u : Value) (h : IsR LCel W u x) => plook_is hv.len hn W h; obtain ⟨j, hj⟩ : ∃ j, lst key n = j := ⟨_, rfl⟩; have j16 := lst_lt key n; rw [hj] at PL hu j16; have j0 : (0 : Int) ≤ (j : Int) := (by omega); have j1 : (j : Int) < 16 := (by omega)
  have PC := fun (W : World) (u : Value) (h : IsR LCel W u x) => pcnt_is hv.len W h; obtain ⟨m, hm⟩ : ∃ m, cnt x = m := ⟨_, rfl⟩; rw [hm] at PC hc; have d0 : ((m : Int) == 12) = true := (by rw [beq_iff_eq]; omega); clear hm hc
  have H1 := Lib.hid h1; have CK := fun (W : World) (u : Value) (h : IsR LCel W u x) => pchk_is (q := 0) W h (Or.inl ⟨rfl, hv⟩)
  have hl := hv.len
  obtain ⟨b, o, c, rfl, hc1C, hc2C, hC⟩ := IsR.open16 h1 hl; have C := Lib.hid hC; clear hC
  clear h1
  have PP := fun W => ppl_is (p := p) (b := true) ⟨fun _ => hp, fun _ => rfl⟩ W; clear hp
  clear hl hv hn hj
  have hB0 := Below.refl w.heap.size w
  have hs0 := hB0.size
  go_enter Try.func17, Try.ntmps17
  go_wp2_with fail
  refine (CK _ _ (H1.out.below hB0)).mono ?_
  rintro e w1 ⟨rfl, hb⟩
  have hB1 : Below w.heap.size w w1 := below_thru hB0 hb
  have hs1 := hB1.size
  clear hB0 hs0
  clear hb
  go_wp2_with fail
  refine (PP _).mono ?_
  rintro e w2 ⟨rfl, hb⟩
  have hB2 : Below w.heap.size w w2 := below_thru hB1 hb
  have hs2 := hB2.size
  clear hB1 hs1
  clear hb
  go_wp2_with fail
  refine (PL _ _ (H1.out.below hB2)).mono ?_
  rintro e w3 ⟨rfl, hb⟩
  have hB3 : Below w.heap.size w w3 := below_thru hB2 hb
  have hs3 := hB3.size
  clear hB2 hs2
  clear hb
  have R := (C.out.below hB3) j j16; have r3 := R.2.2; have zr := lt_of_cell r3; clear R; rw [hu] at r3; clear hu
  go_wp2_with fail
  refine (PC _ _ (H1.out.below hB3)).mono ?_
  rintro e w4 ⟨rfl, hb⟩
  clear zr r3
  have hB4 : Below w.heap.size w w4 := below_thru hB3 hb
  have hs4 := hB4.size
  clear hB3 hs3
  clear hb
  go_wp2_with fail
  go_returns
  exact ⟨_, rfl, Or.inl ⟨rfl, rfl⟩, hB4⟩

set_option maxRecDepth 100000 in
set_option maxHeartbeats 6400000 in
theorem pput_e {v : Value} {x : List Cel} {key p : Int} {n : Nat} (hv : Valid x) (hp : 0 ≤ p ∧ p < 16) (hn : Look x key n) (hu : (cel x (lst key n)).u = false) (hc : cnt x < 12) (w : World) (h1 : IsR LCel w v x) : Calls Try.prog 17 #[v, .int .u32 key, .int .i64 p] w fun e w' => ∃ u, e = .returned (.tuple #[u, .int .i64 0]) ∧ RowX w' w.heap.size u (putL x key p n) ∧ Below w.heap.size w w' := by
  have CL := fun (W : World) (u : Value) (h : IsR LCel W u x) => pclx_is hv.len W h; have UP := Lib.hid (upd16 hv.len (lst_lt key n) key p true); have PN := Lib.hid ((put_len x key p n).trans hv.len)
  have F48 := Lib.hid (flat16 hv.len); have HJ := Lib.hid (show putL x key p n = x.set (lst key n) ⟨key, p, true⟩ from rfl)
  have PL := fun (W : World) (u : Value) (h : IsR LCel W u x) => plook_is hv.len hn W h; obtain ⟨j, hj⟩ : ∃ j, lst key n = j := ⟨_, rfl⟩; have j16 := lst_lt key n; rw [hj] at PL hu j16; have j0 : (0 : Int) ≤ (j : Int) := (by omega); have j1 : (j : Int) < 16 := (by omega)
  rw [hj] at UP HJ
  have PC := fun (W : World) (u : Value) (h : IsR LCel W u x) => pcnt_is hv.len W h; obtain ⟨m, hm⟩ : ∃ m, cnt x = m := ⟨_, rfl⟩; rw [hm] at PC hc; have d0 : ((m : Int) == 12) = false := (by rw [beq_eq_false_iff_ne]; omega); clear hm hc
  have H1 := Lib.hid h1; have CK := fun (W : World) (u : Value) (h : IsR LCel W u x) => pchk_is (q := 0) W h (Or.inl ⟨rfl, hv⟩)
  have hl := hv.len
  obtain ⟨b, o, c, rfl, hc1C, hc2C, hC⟩ := IsR.open16 h1 hl; have C := Lib.hid hC; clear hC
  clear h1
  have PP := fun W => ppl_is (p := p) (b := true) ⟨fun _ => hp, fun _ => rfl⟩ W; clear hp
  clear hl hv hn hj
  obtain ⟨Y, hY⟩ : ∃ Y, x.set j ⟨key, p, true⟩ = Y := ⟨_, rfl⟩; rw [hY] at UP HJ; rw [HJ.out] at PN ⊢; clear hY HJ; obtain ⟨F, hF⟩ : ∃ F, flatR LCel x = F := ⟨_, rfl⟩; rw [hF] at UP F48; have HF := Lib.hid hF; clear hF
  have hB0 := Below.refl w.heap.size w
  have hs0 := hB0.size
  go_enter Try.func17, Try.ntmps17
  go_wp2_with fail
  refine (CK _ _ (H1.out.below hB0)).mono ?_
  rintro e w1 ⟨rfl, hb⟩
  have hB1 : Below w.heap.size w w1 := below_thru hB0 hb
  have hs1 := hB1.size
  clear hB0 hs0
  clear hb
  go_wp2_with fail
  refine (PP _).mono ?_
  rintro e w2 ⟨rfl, hb⟩
  have hB2 : Below w.heap.size w w2 := below_thru hB1 hb
  have hs2 := hB2.size
  clear hB1 hs1
  clear hb
  go_wp2_with fail
  refine (PL _ _ (H1.out.below hB2)).mono ?_
  rintro e w3 ⟨rfl, hb⟩
  have hB3 : Below w.heap.size w w3 := below_thru hB2 hb
  have hs3 := hB3.size
  clear hB2 hs2
  clear hb
  have R := (C.out.below hB3) j j16; have r3 := R.2.2; have zr := lt_of_cell r3; clear R; rw [hu] at r3; clear hu
  go_wp2_with fail
  refine (PC _ _ (H1.out.below hB3)).mono ?_
  rintro e w4 ⟨rfl, hb⟩
  clear zr r3
  have hB4 : Below w.heap.size w w4 := below_thru hB3 hb
  have hs4 := hB4.size
  clear hB3 hs3
  clear hb
  go_wp2_with fail
  refine (CL _ _ (H1.out.below hB4)).mono ?_
  rintro e w9 ⟨u, rfl, ⟨_, g, d, rfl, hg, hd1, hd2, hx, hT⟩, hb⟩
  rw [HF.out] at hx
  have hB9 := below_thru hB4 hb; have hg2 : w.heap.size ≤ g := Nat.le_trans hs4 hg; clear hB4 hb hg
  have hlt := hx.lt
  go_wp2_with (first | (refine wpList_build9 rfl 42 _ rfl (us := #[(0, .int .u32 key), (1, .int .i64 p), (2, .bool true)]) (by rfl) (build_cel key p true _) ?_) | (refine wpList_store_partT (k := j * 3) (cs := [.int .u32 key, .int .i64 p, .bool true]) (ws := flatR LCel Y) rfl _ _ _ rfl hx (by first | rfl | simp) rfl (size_cel _ _ _) (by rw [F48.out]; simp; omega) UP.out (one_cel _ _ _) ?_; intro W3 hW3 tW3))
  go_returns
  exact ⟨_, rfl, Or.inr ⟨PN.out, g, d, rfl, hg2, hd1, hd2, hW3.box, tW3 _ hT⟩, hW3.below _ _ hg2 hB9⟩

theorem pput_is {v : Value} {x y : List Cel} {key p q : Int} (hq : PutX x key p y q) (w : World) (h1 : IsR LCel w v x) : Calls Try.prog 17 #[v, .int .u32 key, .int .i64 p] w fun e w' => ∃ u, e = .returned (.tuple #[u, .int .i64 q]) ∧ RowX w' w.heap.size u y ∧ Below w.heap.size w w' := by
  rcases hq with ⟨rfl, rfl, hv⟩ | ⟨hv, rfl, rfl, hp⟩ | ⟨hv, hp, rfl, rfl, i, hi⟩ | ⟨hv, hp, hn, rfl, rfl, hc⟩ | ⟨hv, hp, hn, rfl, hc, n, h2, h3, rfl⟩
  · exact pput_a hv w h1
  · exact pput_b hv hp w h1
  · obtain ⟨n, h2, _, rfl⟩ := hv.look_has hi
    exact pput_c hv hp h2 hi.2.1 w h1
  · obtain ⟨n, h2, _, h3⟩ := hv.look_none hn
    exact pput_d hv hp h2 h3 hc w h1
  · exact pput_e hv hp h2 h3 hc w h1


end Go.Proofs.Ytalfnmlbidohcaa
