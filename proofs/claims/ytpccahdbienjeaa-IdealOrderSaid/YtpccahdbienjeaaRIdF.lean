/-
  The reference of layer 12, walked: Token.
-/
import Derived.Test.YtpccahdbienjeaaRIdE
import Derived.Test.YtpccahdbienjeaaIdPut
import Derived.Test.YtpccahdbienjeaaGQ1
import Derived.Test.YtpccahdbienjeaaGQ3
import Derived.Test.YtpccahdbienjeaaGQ8
namespace Go.Proofs.Ytpccahdbienjeaa
open Go.RowKit

theorem size_i0 : (Try.prog.info? 25).map (·.size) = some id0.length := size_id12 _ _
theorem one_i0 : id0.toArray.all (·.oneCell') = true := one_id12 _ _ _ _ _ _
theorem build_i0 (W : World) : (Instr.build 25 #[]).run Try.prog W = .ok (.agg id0.toArray) W := by kernel_rfl
theorem size_sT : (Try.prog.info? 22).map (·.size) = some 1 := by kernel_rfl
theorem size_sC : (Try.prog.info? 23).map (·.size) = some 1 := by kernel_rfl
theorem Ty.setCell12 {w : World} {b : Nat} {T : TypeId} (h : Ty w b T) (a : Addr) (v : Value) : Ty (w.setCell a v) b T := by
  obtain ⟨cs, fr, h⟩ := h
  by_cases q : b = a.block
  · refine ⟨if a.spot.isSome then cs else cs.setIfInBounds a.off v, fr, ?_⟩
    simp [World.setCell, Array.getElem?_modify, ← q, h]
  · exact ⟨cs, fr, by rw [heap_setCell_other w a b v q]; exact h⟩
theorem Ty.setCells12 {b : Nat} {T : TypeId} (g : Nat) : ∀ (vs : List Value) (o : Nat) (w : World), Ty w b T → Ty (w.setCells g o vs) b T
  | [], _, _, h => h
  | v :: vs, o, _, h => Ty.setCells12 g vs (o + 1) _ (h.setCell12 ⟨g, o, none⟩ v)
theorem wpList_store_boxT12 {P : Program} {ops : Array Oper} {rest : List Oper} {o : Oper} {a : Act} {w : World} {Q : Exit → Act → World → Prop} (hgd : o.guard = none) (ty : TypeId) (x y : Operand) (ho : o.op = .store ty x y) {b : Nat} {us cs : List Value} (hb : Box w b us) (hx : a.eval x = .pointer (some ⟨b, 0, none⟩)) (hy : a.eval y = .agg cs.toArray)
    (hi : (P.info? ty).map (·.size) = some cs.length) (hl : us.length = cs.length) (h1 : cs.toArray.all (·.oneCell') = true)
    (h : ∀ W, Stored w b cs W → (∀ T, Ty w b T → Ty W b T) → wpList P ops Q rest (a.put o.dst undef) W) : wpList P ops Q (o :: rest) a w :=
  wpList_store_mid hgd ty x y ho b 0 cs.toArray hx hy (by have := hb.there; rw [hl] at this; simpa using this) (by simpa using hi) h1 (h _ (Stored.mk' hb hl) (fun T hT => Ty.setCells12 b _ _ _ hT))
theorem ownR_len {w : World} {B e s n m : Nat} {v : Value} {l : List Value} (h : w.ownsRow B e s v n l) (hn : n = m) : w.ownsRow B e s v m l := hn ▸ h
theorem ownR_storedT {w W : World} {b : Nat} {vs : List Value} {T : TypeId} (hs : Stored w b vs W) (hT : Ty w b T) {B e s n : Nat} {v : Value} {l : List Value} (h : w.ownsRow B e s v n l) (hne : T ≠ e) : W.ownsRow B e s v n l := by
  refine ⟨h.1, ?_⟩
  rcases h.2 with q | ⟨g, cap, cur, e1, hB, hg, r⟩
  · exact Or.inl q
  · refine Or.inr ⟨g, cap, cur, e1, hB, ?_, r⟩
    rw [hs.block g (fun q => ?_)]
    · exact hg
    · obtain ⟨c, fr, hc⟩ := hT
      rw [q, hg] at hc
      simp only [Option.some.injEq, Obj.cells.injEq] at hc
      exact hne hc.2.1.symm
/-- A table of the call's own, and an error. -/
def GivesDE (ts : List Tk) (cs : List Cmd) (q : Int) (w : World) (e : Ending) (w' : World) : Prop := ∃ a b, e = .returned (.tuple #[.agg #[a, b], .int .i64 q]) ∧ w'.ownsRow w.heap.size 34 36 a ts.length (flatR LT ts) ∧ w'.ownsRow w.heap.size 39 47 b cs.length (flatR LC cs) ∧ Below w.heap.size w w'

theorem Dst.one {α β : Type} {f : α → β} {l : List α} (h : Dst f l l.length) {x y : α} (hx : x ∈ l) (hy : y ∈ l) (e : f x = f y) : x = y := by
  obtain ⟨i, hi⟩ := List.getElem?_of_mem hx
  obtain ⟨j, hj⟩ := List.getElem?_of_mem hy
  rcases Nat.lt_trichotomy i j with q | q | q
  · exact absurd e (h i j x y q (List.getElem?_eq_some_iff.1 hj).1 hi hj)
  · subst q
    rw [hi] at hj
    exact Option.some.inj hj
  · exact absurd e.symm (h j i y x q (List.getElem?_eq_some_iff.1 hi).1 hj hi)
theorem Fnd.none_of {α : Type} {p : α → Prop} {l : List α} {i : Int} (h : Fnd p l i) (hn : ∀ x ∈ l, ¬ p x) : i = -1 := by
  rcases h with ⟨n, rfl, ⟨x, hx, px⟩, _⟩ | ⟨rfl, _⟩
  · exact absurd px (hn x (List.mem_of_getElem? hx))
  · rfl

set_option maxRecDepth 100000 in
set_option maxHeartbeats 6400000 in
theorem rtok12_a {v : Value} {ts : List Tk} {cs : List Cmd} (t : Tk) (hl : ts.length + cs.length ≤ 180) {q : Int} (hn : q ≠ 0) (hq : ChkD ts cs q) (w : World) (h1 : IsD w v ts cs) : Calls Try.prog 18 #[v, .agg t.v.toArray] w (GivesDE [] [] q w) := by
  have CK := fun (W : World) (u : Value) (h : IsD W u ts cs) => rchk12_is W h (by omega) hq; have TW := fun (W : World) (u : Value) (h : IsD W u ts cs) => rtwin_is W h (by omega); have BI := fun W => build_i0 W; have SI := Lib.hid size_i0; have OI := Lib.hid one_i0
  have SV := Lib.hid (size_tk t); have HLL := Lib.hid hl
  have d1 : (q != 0) = true := by rw [bne_iff_ne]; exact hn
  clear hn
  have HD := Lib.hid h1
  obtain ⟨v1, v2, rfl, g1, g2⟩ := id h1
  obtain ⟨a1, c1, rfl, hr1⟩ := id g1; obtain ⟨a2, c2, rfl, hr2⟩ := id g2
  have m1 := hr1.most; have r1 := hr1.room; have m2 := hr2.most; have r2 := hr2.room; have H1 := Lib.hid g1; have H2 := Lib.hid g2
  clear hr1 hr2 g1 g2 h1
  obtain ⟨V, hV⟩ : ∃ X, t.v = X := ⟨_, rfl⟩; rw [hV] at SV ⊢; clear hV hl hq
  go_enter Try.func18, Try.ntmps18
  go_upto_region 1 with fail
  refine F_gen (F := fun W => Code.wp _ _ _ _ W) (J := fun W => Box W (w.heap.size) ([.slice a1 ts.length c1, .slice a2 cs.length c2]) ∧ Box W (w.heap.size + 1) (V) ∧ Box W (w.heap.size + 2) (id0) ∧ Below w.heap.size w W) (And.intro (Box.alloc (Box.alloc (Box.newc rfl rfl) _) _) (And.intro (Box.alloc (Box.newc rfl (by simp)) _) (And.intro (Box.newc rfl (by simp)) (by go_grown)))) ?_
  intro w0 ⟨e_d, e_t, e_r, hB0⟩
  have hs0 := hB0.size
  have x_d0 := e_d; clear e_d
  have x_t0 := e_t; clear e_t
  have x_r0 := e_r; clear e_r
  go_wp2_with (refine wpList_load_box9 rfl _ _ rfl x_d0 rfl Try.underlying25 rfl (size_id12 _ _) ?_)
  refine (CK _ _ (HD.out.below hB0)).mono ?_
  rintro e w1 ⟨rfl, hb⟩
  have hB1 : Below w.heap.size w w1 := below_thru hB0 hb
  have hs1 := hB1.size
  have x_d1 : Box w1 (w.heap.size) ([.slice a1 ts.length c1, .slice a2 cs.length c2]) := Box.below x_d0 hb
  have x_t1 : Box w1 (w.heap.size + 1) (V) := Box.below x_t0 hb
  have x_r1 : Box w1 (w.heap.size + 2) (id0) := Box.below x_r0 hb
  clear hB0 hs0 x_d0 x_t0 x_r0
  clear hb
  go_wp2_with (first
    | (refine wpList_load_box9 rfl _ _ rfl x_d1 rfl Try.underlying25 rfl (size_id12 _ _) ?_)
    | (refine wpList_build9 rfl 25 _ rfl (us := #[]) (by rfl) (BI _) ?_))
  refine (CK _ _ (HD.out.below hB1)).mono ?_
  rintro e w2 ⟨rfl, hb⟩
  have hB2 : Below w.heap.size w w2 := below_thru hB1 hb
  have hs2 := hB2.size
  have x_d2 : Box w2 (w.heap.size) ([.slice a1 ts.length c1, .slice a2 cs.length c2]) := Box.below x_d1 hb
  have x_t2 : Box w2 (w.heap.size + 1) (V) := Box.below x_t1 hb
  have x_r2 : Box w2 (w.heap.size + 2) (id0) := Box.below x_r1 hb
  clear hB1 hs1 x_d1 x_t1 x_r1
  clear hb
  have lq := (x_r2).lt
  go_wp2_with (first | (refine wpList_build9 rfl 25 _ rfl (us := #[]) (by rfl) (BI _) ?_) | (refine wpList_store_box (cs := id0) rfl _ _ _ rfl x_r2 rfl rfl SI.out rfl OI.out ?_; intro W99 hW99))
  exact bodyPost_ret (results_box2 Try.results18 hW99.box rfl rfl Try.underlying25 rfl SI.out) rfl ⟨_, _, rfl, ownR_none, ownR_none, hW99.below _ _ (by omega) hB2⟩

set_option maxRecDepth 100000 in
set_option maxHeartbeats 6400000 in
theorem rtok12_b {v : Value} {ts : List Tk} {cs : List Cmd} (t : Tk) (hl : ts.length + cs.length ≤ 180) (hq : ChkD ts cs 0) (hg : ¬ t.k.t < 16) (w : World) (h1 : IsD w v ts cs) : Calls Try.prog 18 #[v, .agg t.v.toArray] w (GivesDE [] [] 8 w) := by
  have CK := fun (W : World) (u : Value) (h : IsD W u ts cs) => rchk12_is W h (by omega) hq; have TW := fun (W : World) (u : Value) (h : IsD W u ts cs) => rtwin_is W h (by omega); have BI := fun W => build_i0 W; have SI := Lib.hid size_i0; have OI := Lib.hid one_i0
  have SV := Lib.hid (size_tk t); have HLL := Lib.hid hl
  have d2 : decide (16 ≤ t.k.t) = true := decide_eq_true (by omega); have v0 : t.v[0]? = some (.int .u32 t.k.t) := rfl
  have HD := Lib.hid h1
  obtain ⟨v1, v2, rfl, g1, g2⟩ := id h1
  obtain ⟨a1, c1, rfl, hr1⟩ := id g1; obtain ⟨a2, c2, rfl, hr2⟩ := id g2
  have m1 := hr1.most; have r1 := hr1.room; have m2 := hr2.most; have r2 := hr2.room; have H1 := Lib.hid g1; have H2 := Lib.hid g2
  clear hr1 hr2 g1 g2 h1
  obtain ⟨V, hV⟩ : ∃ X, t.v = X := ⟨_, rfl⟩; rw [hV] at SV v0 ⊢; clear hV hl hq hg
  go_enter Try.func18, Try.ntmps18
  go_upto_region 1 with fail
  refine F_gen (F := fun W => Code.wp _ _ _ _ W) (J := fun W => Box W (w.heap.size) ([.slice a1 ts.length c1, .slice a2 cs.length c2]) ∧ Box W (w.heap.size + 1) (V) ∧ Box W (w.heap.size + 2) (id0) ∧ Below w.heap.size w W) (And.intro (Box.alloc (Box.alloc (Box.newc rfl rfl) _) _) (And.intro (Box.alloc (Box.newc rfl (by simp)) _) (And.intro (Box.newc rfl (by simp)) (by go_grown)))) ?_
  intro w0 ⟨e_d, e_t, e_r, hB0⟩
  have hs0 := hB0.size
  have x_d0 := e_d; clear e_d
  have x_t0 := e_t; clear e_t
  have x_r0 := e_r; clear e_r
  go_wp2_with (refine wpList_load_box9 rfl _ _ rfl x_d0 rfl Try.underlying25 rfl (size_id12 _ _) ?_)
  refine (CK _ _ (HD.out.below hB0)).mono ?_
  rintro e w1 ⟨rfl, hb⟩
  have hB1 : Below w.heap.size w w1 := below_thru hB0 hb
  have hs1 := hB1.size
  have x_d1 : Box w1 (w.heap.size) ([.slice a1 ts.length c1, .slice a2 cs.length c2]) := Box.below x_d0 hb
  have x_t1 : Box w1 (w.heap.size + 1) (V) := Box.below x_t0 hb
  have x_r1 : Box w1 (w.heap.size + 2) (id0) := Box.below x_r0 hb
  clear hB0 hs0 x_d0 x_t0 x_r0
  clear hb
  have ca := (x_t1).c 0 _ v0
  have za := (x_t1).lt
  have lq := (x_r1).lt
  go_wp2_with (first | (refine wpList_build9 rfl 25 _ rfl (us := #[]) (by rfl) (BI _) ?_) | (refine wpList_store_box (cs := id0) rfl _ _ _ rfl x_r1 rfl rfl SI.out rfl OI.out ?_; intro W99 hW99))
  exact bodyPost_ret (results_box2 Try.results18 hW99.box rfl rfl Try.underlying25 rfl SI.out) rfl ⟨_, _, rfl, ownR_none, ownR_none, hW99.below _ _ (by omega) hB1⟩

set_option maxRecDepth 100000 in
set_option maxHeartbeats 6400000 in
theorem rtok12_c {v : Value} {ts : List Tk} {cs : List Cmd} (t : Tk) (hl : ts.length + cs.length ≤ 180) (hq : ChkD ts cs 0) (hg : t.k.t < 16) {i : Int} (hF : Fnd (fun u : Tk => u.bare = t.bare) ts i) {n : Nat} {y : Tk} (hi : i = n) (hy : ts[n]? = some y) (hne : y ≠ t) (w : World) (h1 : IsD w v ts cs) : Calls Try.prog 18 #[v, .agg t.v.toArray] w (GivesDE [] [] 14 w) := by
  have CK := fun (W : World) (u : Value) (h : IsD W u ts cs) => rchk12_is W h (by omega) hq; have TW := fun (W : World) (u : Value) (h : IsD W u ts cs) => rtwin_is W h (by omega); have BI := fun W => build_i0 W; have SI := Lib.hid size_i0; have OI := Lib.hid one_i0
  have SV := Lib.hid (size_tk t); have HLL := Lib.hid hl
  have d2 : decide (16 ≤ t.k.t) = false := decide_eq_false (by omega); have v0 : t.v[0]? = some (.int .u32 t.k.t) := rfl
  have HD := Lib.hid h1
  obtain ⟨v1, v2, rfl, g1, g2⟩ := id h1
  obtain ⟨a1, c1, rfl, hr1⟩ := id g1; obtain ⟨a2, c2, rfl, hr2⟩ := id g2
  have m1 := hr1.most; have r1 := hr1.room; have m2 := hr2.most; have r2 := hr2.room; have H1 := Lib.hid g1; have H2 := Lib.hid g2
  clear hr1 hr2 g1 g2 h1
  have AT := fun (W : World) (v : Value) (h : IsR LT W v ts) => rtat_is t W h hF
  have hn := (List.getElem?_eq_some_iff.1 hy).1; subst hi
  obtain ⟨b1, o1, rfl, hX1⟩ := H1.out.get 36 rfl hy; have hX1 := Lib.hid hX1
  have d3 : decide ((0 : Int) ≤ (n : Int)) = true := decide_eq_true (by omega); have d4 : decide ((n : Int) < (ts.length : Int)) = true := decide_eq_true (by omega); have i0 : (0 : Int) ≤ (n : Int) := (by omega); have i1 : (n : Int) < (ts.length : Int) := (by omega)
  have EQ := fun W => eq_tk (s := y) (t := t) (b := false) (⟨fun g => (Bool.false_ne_true g).elim, fun g => absurd g hne⟩) W; have SY := Lib.hid (size_tk y)
  obtain ⟨VY, hVY⟩ : ∃ X, y.v = X := ⟨_, rfl⟩; rw [hVY] at EQ SY; rw [show LT.f y = VY from hVY] at hX1; clear hVY
  obtain ⟨V, hV⟩ : ∃ X, t.v = X := ⟨_, rfl⟩; rw [hV] at SV v0 AT EQ ⊢; clear hV hl hq hg hF hy hn hne
  go_enter Try.func18, Try.ntmps18
  go_upto_region 1 with fail
  refine F_gen (F := fun W => Code.wp _ _ _ _ W) (J := fun W => Box W (w.heap.size) ([.slice (some ⟨b1, o1, none⟩) ts.length c1, .slice a2 cs.length c2]) ∧ Box W (w.heap.size + 1) (V) ∧ Box W (w.heap.size + 2) (id0) ∧ Below w.heap.size w W) (And.intro (Box.alloc (Box.alloc (Box.newc rfl rfl) _) _) (And.intro (Box.alloc (Box.newc rfl (by simp)) _) (And.intro (Box.newc rfl (by simp)) (by go_grown)))) ?_
  intro w0 ⟨e_d, e_t, e_r, hB0⟩
  have hs0 := hB0.size
  have x_d0 := e_d; clear e_d
  have x_t0 := e_t; clear e_t
  have x_r0 := e_r; clear e_r
  go_wp2_with (refine wpList_load_box9 rfl _ _ rfl x_d0 rfl Try.underlying25 rfl (size_id12 _ _) ?_)
  refine (CK _ _ (HD.out.below hB0)).mono ?_
  rintro e w1 ⟨rfl, hb⟩
  have hB1 : Below w.heap.size w w1 := below_thru hB0 hb
  have hs1 := hB1.size
  have x_d1 : Box w1 (w.heap.size) ([.slice (some ⟨b1, o1, none⟩) ts.length c1, .slice a2 cs.length c2]) := Box.below x_d0 hb
  have x_t1 : Box w1 (w.heap.size + 1) (V) := Box.below x_t0 hb
  have x_r1 : Box w1 (w.heap.size + 2) (id0) := Box.below x_r0 hb
  clear hB0 hs0 x_d0 x_t0 x_r0
  clear hb
  have ca := (x_t1).c 0 _ v0
  have za := (x_t1).lt
  have lr := (x_r1).lt
  go_wp2_with (refine wpList_load_box9 rfl _ _ rfl x_d1 rfl Try.underlying25 rfl (size_id12 _ _) ?_)
  refine (TW _ _ (HD.out.below hB1)).mono ?_
  rintro e w2 ⟨ta, tb, rfl, oa, ob, hb⟩
  have oa := ownR_base oa (show w.heap.size + 3 ≤ _ by omega); have ob := ownR_base ob (show w.heap.size + 3 ≤ _ by omega); clear lr ca za
  obtain ⟨pa, na, rfl⟩ := own_slR oa; obtain ⟨pb, nb, rfl⟩ := own_slR ob
  have hB2 : Below w.heap.size w w2 := below_thru hB1 hb
  have hs2 := hB2.size
  have x_d2 : Box w2 (w.heap.size) ([.slice (some ⟨b1, o1, none⟩) ts.length c1, .slice a2 cs.length c2]) := Box.below x_d1 hb
  have x_t2 : Box w2 (w.heap.size + 1) (V) := Box.below x_t1 hb
  have x_r2 : Box w2 (w.heap.size + 2) (id0) := Box.below x_r1 hb
  clear hB1 hs1 x_d1 x_t1 x_r1
  clear hb
  have O_ra2 : Hid (w2.ownsRow (w.heap.size + 3) 34 36 (.slice pa ts.length na) (ts.length) (flatR LT ts)) := Lib.hid (oa)
  have O_rb2 : Hid (w2.ownsRow (w.heap.size + 3) 39 47 (.slice pb cs.length nb) (cs.length) (flatR LC cs)) := Lib.hid (ob)
  clear oa ob
  have low_o := (x_r2).lt
  have d_o_d := (x_d2).lt
  have d_o_t := (x_t2).lt
  have d_o_r := (x_r2).lt
  have d_o_0 := hs2
  go_upto_region 6 with (refine wpList_store_boxT12 (cs := [.slice pa ts.length na, .slice pb cs.length nb]) rfl _ _ _ rfl (Box.newc (l := id0) rfl rfl) rfl rfl (size_id12 _ _) rfl (one_id12 _ _ _ _ _ _) ?_; intro W2_0 hW2_0 tW2_0)
  have hN : Below w2.heap.size w2 W2_0 := (hW2_0.below _ _ (by omega) ((Below.refl _ w2).alloc (Nat.le_refl _) _))
  have x_o3 : Box W2_0 (w2.heap.size) ([.slice pa ts.length na, .slice pb cs.length nb]) := hW2_0.box
  have O_ra3 : Hid (W2_0.ownsRow (w.heap.size + 3) 34 36 (.slice pa ts.length na) (ts.length) (flatR LT ts)) := Lib.hid (ownR_below O_ra2.out hN)
  have O_rb3 : Hid (W2_0.ownsRow (w.heap.size + 3) 39 47 (.slice pb cs.length nb) (cs.length) (flatR LC cs)) := Lib.hid (ownR_below O_rb2.out hN)
  clear O_ra2 O_rb2
  have hB3 : Below w.heap.size w W2_0 := below_thru hB2 hN
  have hs3 := hB3.size
  have x_d3 : Box W2_0 (w.heap.size) ([.slice (some ⟨b1, o1, none⟩) ts.length c1, .slice a2 cs.length c2]) := Box.below x_d2 hN
  have x_t3 : Box W2_0 (w.heap.size + 1) (V) := Box.below x_t2 hN
  have x_r3 : Box W2_0 (w.heap.size + 2) (id0) := Box.below x_r2 hN
  clear hB2 hs2 x_d2 x_t2 x_r2
  clear hN hW2_0
  have Y_o3 : Ty W2_0 (w2.heap.size) 25 := tW2_0 _ (Ty.newc rfl); clear tW2_0
  obtain ⟨bo, hbo⟩ : ∃ b, w2.heap.size = b := ⟨_, rfl⟩; rw [hbo] at low_o x_o3 Y_o3 ⊢; clear hbo
  have cb := (x_d3).c 0 _ rfl
  have zb := (x_d3).lt
  go_wp2_with (refine wpList_load_box9 rfl _ _ rfl x_t3 rfl Try.underlying34 rfl SV.out ?_)
  refine (AT _ _ (H1.out.below hB3)).mono ?_
  rintro e w4 ⟨rfl, hb⟩
  clear cb zb
  have O_ra4 : Hid (w4.ownsRow (w.heap.size + 3) 34 36 (.slice pa ts.length na) (ts.length) (flatR LT ts)) := Lib.hid (ownR_below O_ra3.out hb)
  have O_rb4 : Hid (w4.ownsRow (w.heap.size + 3) 39 47 (.slice pb cs.length nb) (cs.length) (flatR LC cs)) := Lib.hid (ownR_below O_rb3.out hb)
  have Y_o4 : Ty w4 (bo) 25 := Ty.below Y_o3 hb
  clear O_ra3 O_rb3 Y_o3
  have hB4 : Below w.heap.size w w4 := below_thru hB3 hb
  have hs4 := hB4.size
  have x_d4 : Box w4 (w.heap.size) ([.slice (some ⟨b1, o1, none⟩) ts.length c1, .slice a2 cs.length c2]) := Box.below x_d3 hb
  have x_t4 : Box w4 (w.heap.size + 1) (V) := Box.below x_t3 hb
  have x_r4 : Box w4 (w.heap.size + 2) (id0) := Box.below x_r3 hb
  have x_o4 : Box w4 (bo) ([.slice pa ts.length na, .slice pb cs.length nb]) := Box.below x_o3 hb
  clear hB3 hs3 x_d3 x_t3 x_r3 x_o3
  clear hb
  go_upto_region 8 with fail
  have x1 := range_below hX1.out hB4
  refine wp_region_held_drew (S := fun W => Box W (w.heap.size) ([.slice (some ⟨b1, o1, none⟩) ts.length c1, .slice a2 cs.length c2]) ∧ Box W (w.heap.size + 1) (V) ∧ Box W (w.heap.size + 2) (id0) ∧ Box W (bo) ([.slice pa ts.length na, .slice pb cs.length nb]) ∧ W.rangeAt (b1) (o1 + n * 36) (VY)) (by kernel_rfl) (And.intro (x_d4).drew (And.intro (x_t4).drew (And.intro (x_r4).drew (And.intro (x_o4).drew x1)))) (fun _ => ?_)
  refine F_drew (F := fun W => wpAnyH _ _ _ _ _ _ _ _ W) ?_
  intro Ws0 hbs0
  clear hs4
  have x_d_s0 : Box Ws0 (w.heap.size) ([.slice (some ⟨b1, o1, none⟩) ts.length c1, .slice a2 cs.length c2]) := Box.below x_d4 hbs0
  have x_t_s0 : Box Ws0 (w.heap.size + 1) (V) := Box.below x_t4 hbs0
  have x_r_s0 : Box Ws0 (w.heap.size + 2) (id0) := Box.below x_r4 hbs0
  have x_o_s0 : Box Ws0 (bo) ([.slice pa ts.length na, .slice pb cs.length nb]) := Box.below x_o4 hbs0
  have c_g_s0 := range_below x1 hbs0
  have y_o_s0 := Ty.below Y_o4 hbs0
  have o_ra_s0 := Lib.hid (ownR_below O_ra4.out hbs0)
  have o_rb_s0 := Lib.hid (ownR_below O_rb4.out hbs0)
  have Bs0 := below_thru hB4 hbs0
  clear x_d4 x_t4 x_r4 x_o4 x1 Y_o4 O_ra4 O_rb4 hB4 hbs0
  refine takeH 0 26 (v := ?vs0_1) rfl (by rfl) (by kernel_rfl) (by kernel_rfl) (by kernel_rfl) (fun _ _ _ h => h) (Or.inl ⟨by rfl, ?_⟩) ((And.intro x_d_s0 (And.intro x_t_s0 (And.intro x_r_s0 (And.intro x_o_s0 c_g_s0))))) ?_
  rotate_left
  · intro wq hSq
    go_simp
    exact rfl
  try simp only [Act.put, List.setIfInBounds_toArray, List.set_cons_zero, List.set_cons_succ]
  refine takeH 1 27 (v := ?vs1_2) rfl (by rfl) (by kernel_rfl) (by kernel_rfl) (by kernel_rfl) (fun _ _ _ h => h) (Or.inl ⟨by rfl, ?_⟩) ((And.intro x_d_s0 (And.intro x_t_s0 (And.intro x_r_s0 (And.intro x_o_s0 c_g_s0))))) ?_
  rotate_left
  · intro wq hSq
    have cq := (hSq.1).c 0 _ rfl
    have zq := lt_of_cell cq
    go_simp
    exact rfl
  try simp only [Act.put, List.setIfInBounds_toArray, List.set_cons_zero, List.set_cons_succ]
  refine takeH 2 28 (v := ?vs2_3) rfl (by rfl) (by kernel_rfl) (by kernel_rfl) (by kernel_rfl) (fun _ _ _ h => h) (Or.inl ⟨by rfl, ?_⟩) ((And.intro x_d_s0 (And.intro x_t_s0 (And.intro x_r_s0 (And.intro x_o_s0 c_g_s0))))) ?_
  rotate_left
  · intro wq hSq
    go_simp
    exact rfl
  try simp only [Act.put, List.setIfInBounds_toArray, List.set_cons_zero, List.set_cons_succ]
  refine takeH 3 29 (v := ?vs3_4) rfl (by rfl) (by kernel_rfl) (by kernel_rfl) (by kernel_rfl) (fun _ _ _ h => h) (Or.inl ⟨by rfl, ?_⟩) ((And.intro x_d_s0 (And.intro x_t_s0 (And.intro x_r_s0 (And.intro x_o_s0 c_g_s0))))) ?_
  rotate_left
  · intro wq hSq
    go_simp
    exact rfl
  try simp only [Act.put, List.setIfInBounds_toArray, List.set_cons_zero, List.set_cons_succ]
  refine takeH 4 30 (v := .agg (VY).toArray) rfl (by rfl) (by kernel_rfl) (by kernel_rfl) (by kernel_rfl) (fun _ _ _ h => h) (yieldsIf_load_mid (by rfl) _ _ rfl _ _ rfl (VY) _ (fun wq hq => hq.2.2.2.2) Try.underlying34 rfl SY.out) ((And.intro x_d_s0 (And.intro x_t_s0 (And.intro x_r_s0 (And.intro x_o_s0 c_g_s0))))) ?_
  try simp only [Act.put, List.setIfInBounds_toArray, List.set_cons_zero, List.set_cons_succ]
  refine takeH 5 31 (v := .agg (V).toArray) rfl (by rfl) (by kernel_rfl) (by kernel_rfl) (by kernel_rfl) (fun _ _ _ h => h) (yieldsIf_load_mid (by rfl) _ _ rfl _ _ rfl (V) _ (fun wq hq => Box.range (hq.2.1)) Try.underlying34 rfl SV.out) ((And.intro x_d_s0 (And.intro x_t_s0 (And.intro x_r_s0 (And.intro x_o_s0 c_g_s0))))) ?_
  try simp only [Act.put, List.setIfInBounds_toArray, List.set_cons_zero, List.set_cons_succ]
  refine takeH 6 32 (v := ?vs6_5) rfl (by rfl) (by kernel_rfl) (by kernel_rfl) (by kernel_rfl) (fun _ _ _ h => h) (Or.inl ⟨by rfl, ?_⟩) ((And.intro x_d_s0 (And.intro x_t_s0 (And.intro x_r_s0 (And.intro x_o_s0 c_g_s0))))) ?_
  rotate_left
  · intro wq hSq
    go_simp
    exact rfl
  try simp only [Act.put, List.setIfInBounds_toArray, List.set_cons_zero, List.set_cons_succ]
  refine wpAnyH_done (by kernel_rfl) ?_ _
  have hB5 := Bs0; have hs5 := hB5.size
  have x_d5 := x_d_s0
  have x_t5 := x_t_s0
  have x_r5 := x_r_s0
  have x_o5 := x_o_s0
  have Y_o5 := y_o_s0
  have O_ra5 := o_ra_s0
  have O_rb5 := o_rb_s0
  clear Bs0 x_d_s0 x_t_s0 x_r_s0 x_o_s0 y_o_s0 o_ra_s0 o_rb_s0
  have lq := (x_r5).lt
  go_wp2_with (first | (refine wpList_build9 rfl 25 _ rfl (us := #[]) (by rfl) (BI _) ?_) | (refine wpList_store_box (cs := id0) rfl _ _ _ rfl x_r5 rfl rfl SI.out rfl OI.out ?_; intro W99 hW99))
  exact bodyPost_ret (results_box2 Try.results18 hW99.box rfl rfl Try.underlying25 rfl SI.out) rfl ⟨_, _, rfl, ownR_none, ownR_none, hW99.below _ _ (by omega) hB5⟩

set_option maxRecDepth 100000 in
set_option maxHeartbeats 6400000 in
theorem rtok12_d {v : Value} {ts : List Tk} {cs : List Cmd} (t : Tk) (hl : ts.length + cs.length ≤ 180) (hq : ChkD ts cs 0) (hg : t.k.t < 16) {i : Int} (hF : Fnd (fun u : Tk => u.bare = t.bare) ts i) {n : Nat} {y : Tk} (hi : i = n) (hy : ts[n]? = some y) (he : y = t) (w : World) (h1 : IsD w v ts cs) : Calls Try.prog 18 #[v, .agg t.v.toArray] w (GivesDE ts cs 0 w) := by
  have CK := fun (W : World) (u : Value) (h : IsD W u ts cs) => rchk12_is W h (by omega) hq; have TW := fun (W : World) (u : Value) (h : IsD W u ts cs) => rtwin_is W h (by omega); have BI := fun W => build_i0 W; have SI := Lib.hid size_i0; have OI := Lib.hid one_i0
  have SV := Lib.hid (size_tk t); have HLL := Lib.hid hl
  have d2 : decide (16 ≤ t.k.t) = false := decide_eq_false (by omega); have v0 : t.v[0]? = some (.int .u32 t.k.t) := rfl
  have HD := Lib.hid h1
  obtain ⟨v1, v2, rfl, g1, g2⟩ := id h1
  obtain ⟨a1, c1, rfl, hr1⟩ := id g1; obtain ⟨a2, c2, rfl, hr2⟩ := id g2
  have m1 := hr1.most; have r1 := hr1.room; have m2 := hr2.most; have r2 := hr2.room; have H1 := Lib.hid g1; have H2 := Lib.hid g2
  clear hr1 hr2 g1 g2 h1
  have AT := fun (W : World) (v : Value) (h : IsR LT W v ts) => rtat_is t W h hF
  have hn := (List.getElem?_eq_some_iff.1 hy).1; subst hi
  obtain ⟨b1, o1, rfl, hX1⟩ := H1.out.get 36 rfl hy; have hX1 := Lib.hid hX1
  have d3 : decide ((0 : Int) ≤ (n : Int)) = true := decide_eq_true (by omega); have d4 : decide ((n : Int) < (ts.length : Int)) = true := decide_eq_true (by omega); have i0 : (0 : Int) ≤ (n : Int) := (by omega); have i1 : (n : Int) < (ts.length : Int) := (by omega)
  have EQ := fun W => eq_tk (s := y) (t := t) (b := true) (⟨fun _ => he, fun _ => rfl⟩) W; have SY := Lib.hid (size_tk y)
  obtain ⟨VY, hVY⟩ : ∃ X, y.v = X := ⟨_, rfl⟩; rw [hVY] at EQ SY; rw [show LT.f y = VY from hVY] at hX1; clear hVY
  obtain ⟨V, hV⟩ : ∃ X, t.v = X := ⟨_, rfl⟩; rw [hV] at SV v0 AT EQ ⊢; clear hV hl hq hg hF hy hn he
  go_enter Try.func18, Try.ntmps18
  go_upto_region 1 with fail
  refine F_gen (F := fun W => Code.wp _ _ _ _ W) (J := fun W => Box W (w.heap.size) ([.slice (some ⟨b1, o1, none⟩) ts.length c1, .slice a2 cs.length c2]) ∧ Box W (w.heap.size + 1) (V) ∧ Box W (w.heap.size + 2) (id0) ∧ Below w.heap.size w W) (And.intro (Box.alloc (Box.alloc (Box.newc rfl rfl) _) _) (And.intro (Box.alloc (Box.newc rfl (by simp)) _) (And.intro (Box.newc rfl (by simp)) (by go_grown)))) ?_
  intro w0 ⟨e_d, e_t, e_r, hB0⟩
  have hs0 := hB0.size
  have x_d0 := e_d; clear e_d
  have x_t0 := e_t; clear e_t
  have x_r0 := e_r; clear e_r
  go_wp2_with (refine wpList_load_box9 rfl _ _ rfl x_d0 rfl Try.underlying25 rfl (size_id12 _ _) ?_)
  refine (CK _ _ (HD.out.below hB0)).mono ?_
  rintro e w1 ⟨rfl, hb⟩
  have hB1 : Below w.heap.size w w1 := below_thru hB0 hb
  have hs1 := hB1.size
  have x_d1 : Box w1 (w.heap.size) ([.slice (some ⟨b1, o1, none⟩) ts.length c1, .slice a2 cs.length c2]) := Box.below x_d0 hb
  have x_t1 : Box w1 (w.heap.size + 1) (V) := Box.below x_t0 hb
  have x_r1 : Box w1 (w.heap.size + 2) (id0) := Box.below x_r0 hb
  clear hB0 hs0 x_d0 x_t0 x_r0
  clear hb
  have ca := (x_t1).c 0 _ v0
  have za := (x_t1).lt
  have lr := (x_r1).lt
  go_wp2_with (refine wpList_load_box9 rfl _ _ rfl x_d1 rfl Try.underlying25 rfl (size_id12 _ _) ?_)
  refine (TW _ _ (HD.out.below hB1)).mono ?_
  rintro e w2 ⟨ta, tb, rfl, oa, ob, hb⟩
  have oa := ownR_base oa (show w.heap.size + 3 ≤ _ by omega); have ob := ownR_base ob (show w.heap.size + 3 ≤ _ by omega); clear lr ca za
  obtain ⟨pa, na, rfl⟩ := own_slR oa; obtain ⟨pb, nb, rfl⟩ := own_slR ob
  have hB2 : Below w.heap.size w w2 := below_thru hB1 hb
  have hs2 := hB2.size
  have x_d2 : Box w2 (w.heap.size) ([.slice (some ⟨b1, o1, none⟩) ts.length c1, .slice a2 cs.length c2]) := Box.below x_d1 hb
  have x_t2 : Box w2 (w.heap.size + 1) (V) := Box.below x_t1 hb
  have x_r2 : Box w2 (w.heap.size + 2) (id0) := Box.below x_r1 hb
  clear hB1 hs1 x_d1 x_t1 x_r1
  clear hb
  have O_ra2 : Hid (w2.ownsRow (w.heap.size + 3) 34 36 (.slice pa ts.length na) (ts.length) (flatR LT ts)) := Lib.hid (oa)
  have O_rb2 : Hid (w2.ownsRow (w.heap.size + 3) 39 47 (.slice pb cs.length nb) (cs.length) (flatR LC cs)) := Lib.hid (ob)
  clear oa ob
  have low_o := (x_r2).lt
  have d_o_d := (x_d2).lt
  have d_o_t := (x_t2).lt
  have d_o_r := (x_r2).lt
  have d_o_0 := hs2
  go_upto_region 6 with (refine wpList_store_boxT12 (cs := [.slice pa ts.length na, .slice pb cs.length nb]) rfl _ _ _ rfl (Box.newc (l := id0) rfl rfl) rfl rfl (size_id12 _ _) rfl (one_id12 _ _ _ _ _ _) ?_; intro W2_0 hW2_0 tW2_0)
  have hN : Below w2.heap.size w2 W2_0 := (hW2_0.below _ _ (by omega) ((Below.refl _ w2).alloc (Nat.le_refl _) _))
  have x_o3 : Box W2_0 (w2.heap.size) ([.slice pa ts.length na, .slice pb cs.length nb]) := hW2_0.box
  have O_ra3 : Hid (W2_0.ownsRow (w.heap.size + 3) 34 36 (.slice pa ts.length na) (ts.length) (flatR LT ts)) := Lib.hid (ownR_below O_ra2.out hN)
  have O_rb3 : Hid (W2_0.ownsRow (w.heap.size + 3) 39 47 (.slice pb cs.length nb) (cs.length) (flatR LC cs)) := Lib.hid (ownR_below O_rb2.out hN)
  clear O_ra2 O_rb2
  have hB3 : Below w.heap.size w W2_0 := below_thru hB2 hN
  have hs3 := hB3.size
  have x_d3 : Box W2_0 (w.heap.size) ([.slice (some ⟨b1, o1, none⟩) ts.length c1, .slice a2 cs.length c2]) := Box.below x_d2 hN
  have x_t3 : Box W2_0 (w.heap.size + 1) (V) := Box.below x_t2 hN
  have x_r3 : Box W2_0 (w.heap.size + 2) (id0) := Box.below x_r2 hN
  clear hB2 hs2 x_d2 x_t2 x_r2
  clear hN hW2_0
  have Y_o3 : Ty W2_0 (w2.heap.size) 25 := tW2_0 _ (Ty.newc rfl); clear tW2_0
  obtain ⟨bo, hbo⟩ : ∃ b, w2.heap.size = b := ⟨_, rfl⟩; rw [hbo] at low_o x_o3 Y_o3 ⊢; clear hbo
  have cb := (x_d3).c 0 _ rfl
  have zb := (x_d3).lt
  go_wp2_with (refine wpList_load_box9 rfl _ _ rfl x_t3 rfl Try.underlying34 rfl SV.out ?_)
  refine (AT _ _ (H1.out.below hB3)).mono ?_
  rintro e w4 ⟨rfl, hb⟩
  clear cb zb
  have O_ra4 : Hid (w4.ownsRow (w.heap.size + 3) 34 36 (.slice pa ts.length na) (ts.length) (flatR LT ts)) := Lib.hid (ownR_below O_ra3.out hb)
  have O_rb4 : Hid (w4.ownsRow (w.heap.size + 3) 39 47 (.slice pb cs.length nb) (cs.length) (flatR LC cs)) := Lib.hid (ownR_below O_rb3.out hb)
  have Y_o4 : Ty w4 (bo) 25 := Ty.below Y_o3 hb
  clear O_ra3 O_rb3 Y_o3
  have hB4 : Below w.heap.size w w4 := below_thru hB3 hb
  have hs4 := hB4.size
  have x_d4 : Box w4 (w.heap.size) ([.slice (some ⟨b1, o1, none⟩) ts.length c1, .slice a2 cs.length c2]) := Box.below x_d3 hb
  have x_t4 : Box w4 (w.heap.size + 1) (V) := Box.below x_t3 hb
  have x_r4 : Box w4 (w.heap.size + 2) (id0) := Box.below x_r3 hb
  have x_o4 : Box w4 (bo) ([.slice pa ts.length na, .slice pb cs.length nb]) := Box.below x_o3 hb
  clear hB3 hs3 x_d3 x_t3 x_r3 x_o3
  clear hb
  go_upto_region 8 with fail
  have x1 := range_below hX1.out hB4
  refine wp_region_held_drew (S := fun W => Box W (w.heap.size) ([.slice (some ⟨b1, o1, none⟩) ts.length c1, .slice a2 cs.length c2]) ∧ Box W (w.heap.size + 1) (V) ∧ Box W (w.heap.size + 2) (id0) ∧ Box W (bo) ([.slice pa ts.length na, .slice pb cs.length nb]) ∧ W.rangeAt (b1) (o1 + n * 36) (VY)) (by kernel_rfl) (And.intro (x_d4).drew (And.intro (x_t4).drew (And.intro (x_r4).drew (And.intro (x_o4).drew x1)))) (fun _ => ?_)
  refine F_drew (F := fun W => wpAnyH _ _ _ _ _ _ _ _ W) ?_
  intro Ws0 hbs0
  clear hs4
  have x_d_s0 : Box Ws0 (w.heap.size) ([.slice (some ⟨b1, o1, none⟩) ts.length c1, .slice a2 cs.length c2]) := Box.below x_d4 hbs0
  have x_t_s0 : Box Ws0 (w.heap.size + 1) (V) := Box.below x_t4 hbs0
  have x_r_s0 : Box Ws0 (w.heap.size + 2) (id0) := Box.below x_r4 hbs0
  have x_o_s0 : Box Ws0 (bo) ([.slice pa ts.length na, .slice pb cs.length nb]) := Box.below x_o4 hbs0
  have c_g_s0 := range_below x1 hbs0
  have y_o_s0 := Ty.below Y_o4 hbs0
  have o_ra_s0 := Lib.hid (ownR_below O_ra4.out hbs0)
  have o_rb_s0 := Lib.hid (ownR_below O_rb4.out hbs0)
  have Bs0 := below_thru hB4 hbs0
  clear x_d4 x_t4 x_r4 x_o4 x1 Y_o4 O_ra4 O_rb4 hB4 hbs0
  refine takeH 0 26 (v := ?vs0_1) rfl (by rfl) (by kernel_rfl) (by kernel_rfl) (by kernel_rfl) (fun _ _ _ h => h) (Or.inl ⟨by rfl, ?_⟩) ((And.intro x_d_s0 (And.intro x_t_s0 (And.intro x_r_s0 (And.intro x_o_s0 c_g_s0))))) ?_
  rotate_left
  · intro wq hSq
    go_simp
    exact rfl
  try simp only [Act.put, List.setIfInBounds_toArray, List.set_cons_zero, List.set_cons_succ]
  refine takeH 1 27 (v := ?vs1_2) rfl (by rfl) (by kernel_rfl) (by kernel_rfl) (by kernel_rfl) (fun _ _ _ h => h) (Or.inl ⟨by rfl, ?_⟩) ((And.intro x_d_s0 (And.intro x_t_s0 (And.intro x_r_s0 (And.intro x_o_s0 c_g_s0))))) ?_
  rotate_left
  · intro wq hSq
    have cq := (hSq.1).c 0 _ rfl
    have zq := lt_of_cell cq
    go_simp
    exact rfl
  try simp only [Act.put, List.setIfInBounds_toArray, List.set_cons_zero, List.set_cons_succ]
  refine takeH 2 28 (v := ?vs2_3) rfl (by rfl) (by kernel_rfl) (by kernel_rfl) (by kernel_rfl) (fun _ _ _ h => h) (Or.inl ⟨by rfl, ?_⟩) ((And.intro x_d_s0 (And.intro x_t_s0 (And.intro x_r_s0 (And.intro x_o_s0 c_g_s0))))) ?_
  rotate_left
  · intro wq hSq
    go_simp
    exact rfl
  try simp only [Act.put, List.setIfInBounds_toArray, List.set_cons_zero, List.set_cons_succ]
  refine takeH 3 29 (v := ?vs3_4) rfl (by rfl) (by kernel_rfl) (by kernel_rfl) (by kernel_rfl) (fun _ _ _ h => h) (Or.inl ⟨by rfl, ?_⟩) ((And.intro x_d_s0 (And.intro x_t_s0 (And.intro x_r_s0 (And.intro x_o_s0 c_g_s0))))) ?_
  rotate_left
  · intro wq hSq
    go_simp
    exact rfl
  try simp only [Act.put, List.setIfInBounds_toArray, List.set_cons_zero, List.set_cons_succ]
  refine takeH 4 30 (v := .agg (VY).toArray) rfl (by rfl) (by kernel_rfl) (by kernel_rfl) (by kernel_rfl) (fun _ _ _ h => h) (yieldsIf_load_mid (by rfl) _ _ rfl _ _ rfl (VY) _ (fun wq hq => hq.2.2.2.2) Try.underlying34 rfl SY.out) ((And.intro x_d_s0 (And.intro x_t_s0 (And.intro x_r_s0 (And.intro x_o_s0 c_g_s0))))) ?_
  try simp only [Act.put, List.setIfInBounds_toArray, List.set_cons_zero, List.set_cons_succ]
  refine takeH 5 31 (v := .agg (V).toArray) rfl (by rfl) (by kernel_rfl) (by kernel_rfl) (by kernel_rfl) (fun _ _ _ h => h) (yieldsIf_load_mid (by rfl) _ _ rfl _ _ rfl (V) _ (fun wq hq => Box.range (hq.2.1)) Try.underlying34 rfl SV.out) ((And.intro x_d_s0 (And.intro x_t_s0 (And.intro x_r_s0 (And.intro x_o_s0 c_g_s0))))) ?_
  try simp only [Act.put, List.setIfInBounds_toArray, List.set_cons_zero, List.set_cons_succ]
  refine takeH 6 32 (v := ?vs6_5) rfl (by rfl) (by kernel_rfl) (by kernel_rfl) (by kernel_rfl) (fun _ _ _ h => h) (Or.inl ⟨by rfl, ?_⟩) ((And.intro x_d_s0 (And.intro x_t_s0 (And.intro x_r_s0 (And.intro x_o_s0 c_g_s0))))) ?_
  rotate_left
  · intro wq hSq
    go_simp
    exact rfl
  try simp only [Act.put, List.setIfInBounds_toArray, List.set_cons_zero, List.set_cons_succ]
  refine wpAnyH_done (by kernel_rfl) ?_ _
  have hB5 := Bs0; have hs5 := hB5.size
  have x_d5 := x_d_s0
  have x_t5 := x_t_s0
  have x_r5 := x_r_s0
  have x_o5 := x_o_s0
  have Y_o5 := y_o_s0
  have O_ra5 := o_ra_s0
  have O_rb5 := o_rb_s0
  clear Bs0 x_d_s0 x_t_s0 x_r_s0 x_o_s0 y_o_s0 o_ra_s0 o_rb_s0
  have lq := (x_r5).lt
  go_wp2_with (first | (refine wpList_load_box9 rfl _ _ rfl x_o5 rfl Try.underlying25 rfl (size_id12 _ _) ?_) | (refine wpList_store_box (cs := [.slice pa ts.length na, .slice pb cs.length nb]) rfl _ _ _ rfl x_r5 rfl rfl (size_id12 _ _) rfl (one_id12 _ _ _ _ _ _) ?_; intro W99 hW99))
  exact bodyPost_ret (results_box2 Try.results18 hW99.box rfl rfl Try.underlying25 rfl (size_id12 _ _)) rfl ⟨_, _, rfl, ownR_base (ownR_stored hW99 O_ra5.out (by omega)) (by omega), ownR_base (ownR_stored hW99 O_rb5.out (by omega)) (by omega), hW99.below _ _ (by omega) hB5⟩

set_option maxRecDepth 100000 in
set_option maxHeartbeats 6400000 in
theorem rtok12_e {v : Value} {ts : List Tk} {cs : List Cmd} (t : Tk) (hl : ts.length + cs.length ≤ 180) (hq : ChkD ts cs 0) (hg : t.k.t < 16) {i : Int} (hF : Fnd (fun u : Tk => u.bare = t.bare) ts i) (hi : i = -1) (hno : ∀ u ∈ ts, u.bare ≠ t.bare) (hm : ts.length + cs.length < 100) (w : World) (h1 : IsD w v ts cs) : Calls Try.prog 18 #[v, .agg t.v.toArray] w (GivesDE (ts ++ [t]) cs 0 w) := by
  have CK := fun (W : World) (u : Value) (h : IsD W u ts cs) => rchk12_is W h (by omega) hq; have TW := fun (W : World) (u : Value) (h : IsD W u ts cs) => rtwin_is W h (by omega); have BI := fun W => build_i0 W; have SI := Lib.hid size_i0; have OI := Lib.hid one_i0
  have SV := Lib.hid (size_tk t); have HLL := Lib.hid hl
  have d2 : decide (16 ≤ t.k.t) = false := decide_eq_false (by omega); have v0 : t.v[0]? = some (.int .u32 t.k.t) := rfl
  have HD := Lib.hid h1
  obtain ⟨v1, v2, rfl, g1, g2⟩ := id h1
  obtain ⟨a1, c1, rfl, hr1⟩ := id g1; obtain ⟨a2, c2, rfl, hr2⟩ := id g2
  have m1 := hr1.most; have r1 := hr1.room; have m2 := hr2.most; have r2 := hr2.room; have H1 := Lib.hid g1; have H2 := Lib.hid g2
  clear hr1 hr2 g1 g2 h1
  have AT := fun (W : World) (v : Value) (h : IsR LT W v ts) => rtat_is t W h hF
  subst hi; have d3 : decide ((0 : Int) ≤ (-1 : Int)) = false := rfl
  obtain ⟨ti, hin, hz0, hz1, hz2⟩ := info_parts info_tk12
  have HB := fun W => run_bsliceN (P := Try.prog) (n := 1) W 22 34 ti _ 36 Try.underlying22 hin hz0 hz1 rfl [t.v] (by simp [t.v_len]) (by decide) (by simp) #[(0, .agg t.v.toArray)] rfl rfl (by decide)
  rw [show [t.v].flatten = t.v by simp] at HB; replace HB := Lib.hid HB
  have EV : Hid (t.v = flatR LT [t]) := Lib.hid (flatR_one LT t).symm
  have CK2 := fun (W : World) (u : Value) (h : IsD W u (ts ++ [t]) cs) => rchk12_is W h (by simp; omega) (ChkD.put_t hq hg hno)
  rw [if_pos hm] at CK2
  obtain ⟨V, hV⟩ : ∃ X, t.v = X := ⟨_, rfl⟩; rw [hV] at SV v0 AT HB EV ⊢; clear hV hl hq hg hF hno hm
  go_enter Try.func18, Try.ntmps18
  go_upto_region 1 with fail
  refine F_gen (F := fun W => Code.wp _ _ _ _ W) (J := fun W => Box W (w.heap.size) ([.slice a1 ts.length c1, .slice a2 cs.length c2]) ∧ Box W (w.heap.size + 1) (V) ∧ Box W (w.heap.size + 2) (id0) ∧ Below w.heap.size w W) (And.intro (Box.alloc (Box.alloc (Box.newc rfl rfl) _) _) (And.intro (Box.alloc (Box.newc rfl (by simp)) _) (And.intro (Box.newc rfl (by simp)) (by go_grown)))) ?_
  intro w0 ⟨e_d, e_t, e_r, hB0⟩
  have hs0 := hB0.size
  have x_d0 := e_d; clear e_d
  have x_t0 := e_t; clear e_t
  have x_r0 := e_r; clear e_r
  go_wp2_with (refine wpList_load_box9 rfl _ _ rfl x_d0 rfl Try.underlying25 rfl (size_id12 _ _) ?_)
  refine (CK _ _ (HD.out.below hB0)).mono ?_
  rintro e w1 ⟨rfl, hb⟩
  have hB1 : Below w.heap.size w w1 := below_thru hB0 hb
  have hs1 := hB1.size
  have x_d1 : Box w1 (w.heap.size) ([.slice a1 ts.length c1, .slice a2 cs.length c2]) := Box.below x_d0 hb
  have x_t1 : Box w1 (w.heap.size + 1) (V) := Box.below x_t0 hb
  have x_r1 : Box w1 (w.heap.size + 2) (id0) := Box.below x_r0 hb
  clear hB0 hs0 x_d0 x_t0 x_r0
  clear hb
  have ca := (x_t1).c 0 _ v0
  have za := (x_t1).lt
  have lr := (x_r1).lt
  go_wp2_with (refine wpList_load_box9 rfl _ _ rfl x_d1 rfl Try.underlying25 rfl (size_id12 _ _) ?_)
  refine (TW _ _ (HD.out.below hB1)).mono ?_
  rintro e w2 ⟨ta, tb, rfl, oa, ob, hb⟩
  have oa := ownR_base oa (show w.heap.size + 3 ≤ _ by omega); have ob := ownR_base ob (show w.heap.size + 3 ≤ _ by omega); clear lr ca za
  obtain ⟨pa, na, rfl⟩ := own_slR oa; obtain ⟨pb, nb, rfl⟩ := own_slR ob
  have hB2 : Below w.heap.size w w2 := below_thru hB1 hb
  have hs2 := hB2.size
  have x_d2 : Box w2 (w.heap.size) ([.slice a1 ts.length c1, .slice a2 cs.length c2]) := Box.below x_d1 hb
  have x_t2 : Box w2 (w.heap.size + 1) (V) := Box.below x_t1 hb
  have x_r2 : Box w2 (w.heap.size + 2) (id0) := Box.below x_r1 hb
  clear hB1 hs1 x_d1 x_t1 x_r1
  clear hb
  have O_ra2 : Hid (w2.ownsRow (w.heap.size + 3) 34 36 (.slice pa ts.length na) (ts.length) (flatR LT ts)) := Lib.hid (oa)
  have O_rb2 : Hid (w2.ownsRow (w.heap.size + 3) 39 47 (.slice pb cs.length nb) (cs.length) (flatR LC cs)) := Lib.hid (ob)
  clear oa ob
  have low_o := (x_r2).lt
  have d_o_d := (x_d2).lt
  have d_o_t := (x_t2).lt
  have d_o_r := (x_r2).lt
  have d_o_0 := hs2
  go_upto_region 6 with (refine wpList_store_boxT12 (cs := [.slice pa ts.length na, .slice pb cs.length nb]) rfl _ _ _ rfl (Box.newc (l := id0) rfl rfl) rfl rfl (size_id12 _ _) rfl (one_id12 _ _ _ _ _ _) ?_; intro W2_0 hW2_0 tW2_0)
  have hN : Below w2.heap.size w2 W2_0 := (hW2_0.below _ _ (by omega) ((Below.refl _ w2).alloc (Nat.le_refl _) _))
  have x_o3 : Box W2_0 (w2.heap.size) ([.slice pa ts.length na, .slice pb cs.length nb]) := hW2_0.box
  have O_ra3 : Hid (W2_0.ownsRow (w.heap.size + 3) 34 36 (.slice pa ts.length na) (ts.length) (flatR LT ts)) := Lib.hid (ownR_below O_ra2.out hN)
  have O_rb3 : Hid (W2_0.ownsRow (w.heap.size + 3) 39 47 (.slice pb cs.length nb) (cs.length) (flatR LC cs)) := Lib.hid (ownR_below O_rb2.out hN)
  clear O_ra2 O_rb2
  have hB3 : Below w.heap.size w W2_0 := below_thru hB2 hN
  have hs3 := hB3.size
  have x_d3 : Box W2_0 (w.heap.size) ([.slice a1 ts.length c1, .slice a2 cs.length c2]) := Box.below x_d2 hN
  have x_t3 : Box W2_0 (w.heap.size + 1) (V) := Box.below x_t2 hN
  have x_r3 : Box W2_0 (w.heap.size + 2) (id0) := Box.below x_r2 hN
  clear hB2 hs2 x_d2 x_t2 x_r2
  clear hN hW2_0
  have Y_o3 : Ty W2_0 (w2.heap.size) 25 := tW2_0 _ (Ty.newc rfl); clear tW2_0
  obtain ⟨bo, hbo⟩ : ∃ b, w2.heap.size = b := ⟨_, rfl⟩; rw [hbo] at low_o x_o3 Y_o3 ⊢; clear hbo
  have cb := (x_d3).c 0 _ rfl
  have zb := (x_d3).lt
  go_wp2_with (refine wpList_load_box9 rfl _ _ rfl x_t3 rfl Try.underlying34 rfl SV.out ?_)
  refine (AT _ _ (H1.out.below hB3)).mono ?_
  rintro e w4 ⟨rfl, hb⟩
  clear cb zb
  have O_ra4 : Hid (w4.ownsRow (w.heap.size + 3) 34 36 (.slice pa ts.length na) (ts.length) (flatR LT ts)) := Lib.hid (ownR_below O_ra3.out hb)
  have O_rb4 : Hid (w4.ownsRow (w.heap.size + 3) 39 47 (.slice pb cs.length nb) (cs.length) (flatR LC cs)) := Lib.hid (ownR_below O_rb3.out hb)
  have Y_o4 : Ty w4 (bo) 25 := Ty.below Y_o3 hb
  clear O_ra3 O_rb3 Y_o3
  have hB4 : Below w.heap.size w w4 := below_thru hB3 hb
  have hs4 := hB4.size
  have x_d4 : Box w4 (w.heap.size) ([.slice a1 ts.length c1, .slice a2 cs.length c2]) := Box.below x_d3 hb
  have x_t4 : Box w4 (w.heap.size + 1) (V) := Box.below x_t3 hb
  have x_r4 : Box w4 (w.heap.size + 2) (id0) := Box.below x_r3 hb
  have x_o4 : Box w4 (bo) ([.slice pa ts.length na, .slice pb cs.length nb]) := Box.below x_o3 hb
  clear hB3 hs3 x_d3 x_t3 x_r3 x_o3
  clear hb
  have cc := (x_o4).c 0 _ rfl
  have zc := (x_o4).lt
  have lz_d := (x_d4).lt
  have lz_t := (x_t4).lt
  have lz_r := (x_r4).lt
  have HIR : IsR LT (w4.alloc (.cells V.toArray 34)) (.slice (some ⟨w4.heap.size, 0, none⟩) 1 1) [t] := IsR.ofBox (Box.newc rfl rfl) EV.out rfl (by decide)
  have OM : (w4.alloc (.cells V.toArray 34)).ownsRow (w.heap.size + 3) 34 36 (.slice pa ts.length na) (ts.length) (flatR LT ts) := ownR_below O_ra4.out ((Below.refl _ _).alloc (Nat.le_refl _) _)
  have OX : (w4.alloc (.cells V.toArray 34)).ownsRow (w.heap.size + 3) 39 47 (.slice pb cs.length nb) (cs.length) (flatR LC cs) := ownR_below O_rb4.out ((Below.refl _ _).alloc (Nat.le_refl _) _)
  have XO := Box.alloc x_o4 (.cells V.toArray 34); have YO := Ty.alloc Y_o4 (.cells V.toArray 34)
  have zb : w.heap.size + 3 ≤ (w4.alloc (.cells V.toArray 34)).heap.size := by simp; omega
  go_upto_region 12 with (first | (refine wpList_load_box9 rfl _ _ rfl x_t4 rfl Try.underlying34 rfl SV.out ?_) | (refine wpList_bsliceN rfl 22 1 _ rfl (us := #[(0, .agg V.toArray)]) (by rfl) (HB.out _) ?_) | (at_builtin; refine wpList_append_rows rfl LT _ _ 22 rfl (w.heap.size + 3) 34 ti (.agg zT12.toArray) 36 56 rfl Try.underlying22 hin hz0 hz1 hz2 rfl _ ts.length _ rfl OM _ [t] rfl HIR (by have := HLL.out; unfold maxLen; simp; omega) (by have := HLL.out; simp; omega) zb ?_; intro v40 w40 own4 gr4; obtain ⟨p4, n4, rfl⟩ := own_slR own4; have XP := Box.grownT XO YO OM (by decide) gr4) | (refine wpList_store_cell (k := 0) (ws := [.slice p4 (ts.length + 1) n4, .slice pb cs.length nb]) (v := .slice p4 (ts.length + 1) n4) rfl _ _ _ rfl XP.1 rfl rfl rfl rfl size_sT (show 0 < 2 by decide) rfl ?_; intro w50 hS5))
  have hKB := (Below.refl (w.heap.size + 3) _).grown gr4 zb (ownR_block OM)
  have x_d5 : Box w50 (w.heap.size) ([.slice a1 ts.length c1, .slice a2 cs.length c2]) := hS5.past _ _ (by omega) (Box.keep12 (x_d4.alloc _) hKB (by omega))
  have x_t5 : Box w50 (w.heap.size + 1) (V) := hS5.past _ _ (by omega) (Box.keep12 (x_t4.alloc _) hKB (by omega))
  have x_r5 : Box w50 (w.heap.size + 2) (id0) := hS5.past _ _ (by omega) (Box.keep12 (x_r4.alloc _) hKB (by omega))
  have x_o5 : Box w50 bo [.slice p4 (ts.length + 1) n4, .slice pb cs.length nb] := hS5.box
  have hB5 : Below w.heap.size w w50 := hS5.below _ _ (by omega) ((hB4.alloc hs4 _).trans (hKB.mono (by omega))); have hs5 := hB5.size
  have O_m5 := Lib.hid (ownR_storedT hS5 XP.2 own4 (by decide)); have O_x5 := Lib.hid (ownR_storedT hS5 XP.2 (ownR_apart OX OM (by decide) gr4) (by decide))
  rw [show flatR LT ts ++ flatR LT [t] = flatR LT (ts ++ [t]) from (flatR_app LT _ _).symm] at O_m5
  clear hS5 XP own4 gr4 hKB zb XO YO OX OM HIR low_o x_d4 x_t4 x_r4 x_o4 hB4 hs4 lz_d lz_t lz_r Y_o4 O_ra4 O_rb4 cc zc
  have hlen : (ts ++ [t]).length = ts.length + 1 := by simp
  have ID : IsD w50 (.agg [.slice p4 (ts.length + 1) n4, .slice pb cs.length nb].toArray) (ts ++ [t]) cs := ⟨_, _, rfl, IsR.own O_m5.out rfl hlen.symm, IsR.own O_x5.out rfl rfl⟩
  go_wp2_with (refine wpList_load_box9 rfl _ _ rfl x_o5 rfl Try.underlying25 rfl (size_id12 _ _) ?_)
  refine (CK2 _ _ ID).mono ?_
  rintro e w60 ⟨rfl, hb⟩
  have O_m6 := Lib.hid (ownR_below O_m5.out hb); have O_x6 := Lib.hid (ownR_below O_x5.out hb); clear ID O_m5 O_x5
  have hB6 : Below w.heap.size w w60 := below_thru hB5 hb
  have hs6 := hB6.size
  have x_d6 : Box w60 (w.heap.size) ([.slice a1 ts.length c1, .slice a2 cs.length c2]) := Box.below x_d5 hb
  have x_t6 : Box w60 (w.heap.size + 1) (V) := Box.below x_t5 hb
  have x_r6 : Box w60 (w.heap.size + 2) (id0) := Box.below x_r5 hb
  have x_o6 : Box w60 (bo) ([.slice p4 (ts.length + 1) n4, .slice pb cs.length nb]) := Box.below x_o5 hb
  clear hB5 hs5 x_d5 x_t5 x_r5 x_o5
  clear hb
  have lq := (x_r6).lt
  go_wp2_with (first | (refine wpList_load_box9 rfl _ _ rfl x_o6 rfl Try.underlying25 rfl (size_id12 _ _) ?_) | (refine wpList_store_box (cs := [.slice p4 (ts.length + 1) n4, .slice pb cs.length nb]) rfl _ _ _ rfl x_r6 rfl rfl (size_id12 _ _) rfl (one_id12 _ _ _ _ _ _) ?_; intro W99 hW99))
  exact bodyPost_ret (results_box2 Try.results18 hW99.box rfl rfl Try.underlying25 rfl (size_id12 _ _)) rfl ⟨_, _, rfl, ownR_base (ownR_stored hW99 (ownR_len O_m6.out hlen.symm) (by omega)) (by omega), ownR_base (ownR_stored hW99 O_x6.out (by omega)) (by omega), hW99.below _ _ (by omega) hB6⟩

set_option maxRecDepth 100000 in
set_option maxHeartbeats 6400000 in
theorem rtok12_f {v : Value} {ts : List Tk} {cs : List Cmd} (t : Tk) (hl : ts.length + cs.length ≤ 180) (hq : ChkD ts cs 0) (hg : t.k.t < 16) {i : Int} (hF : Fnd (fun u : Tk => u.bare = t.bare) ts i) (hi : i = -1) (hno : ∀ u ∈ ts, u.bare ≠ t.bare) (hm : 100 ≤ ts.length + cs.length) (w : World) (h1 : IsD w v ts cs) : Calls Try.prog 18 #[v, .agg t.v.toArray] w (GivesDE [] [] 4 w) := by
  have CK := fun (W : World) (u : Value) (h : IsD W u ts cs) => rchk12_is W h (by omega) hq; have TW := fun (W : World) (u : Value) (h : IsD W u ts cs) => rtwin_is W h (by omega); have BI := fun W => build_i0 W; have SI := Lib.hid size_i0; have OI := Lib.hid one_i0
  have SV := Lib.hid (size_tk t); have HLL := Lib.hid hl
  have d2 : decide (16 ≤ t.k.t) = false := decide_eq_false (by omega); have v0 : t.v[0]? = some (.int .u32 t.k.t) := rfl
  have HD := Lib.hid h1
  obtain ⟨v1, v2, rfl, g1, g2⟩ := id h1
  obtain ⟨a1, c1, rfl, hr1⟩ := id g1; obtain ⟨a2, c2, rfl, hr2⟩ := id g2
  have m1 := hr1.most; have r1 := hr1.room; have m2 := hr2.most; have r2 := hr2.room; have H1 := Lib.hid g1; have H2 := Lib.hid g2
  clear hr1 hr2 g1 g2 h1
  have AT := fun (W : World) (v : Value) (h : IsR LT W v ts) => rtat_is t W h hF
  subst hi; have d3 : decide ((0 : Int) ≤ (-1 : Int)) = false := rfl
  obtain ⟨ti, hin, hz0, hz1, hz2⟩ := info_parts info_tk12
  have HB := fun W => run_bsliceN (P := Try.prog) (n := 1) W 22 34 ti _ 36 Try.underlying22 hin hz0 hz1 rfl [t.v] (by simp [t.v_len]) (by decide) (by simp) #[(0, .agg t.v.toArray)] rfl rfl (by decide)
  rw [show [t.v].flatten = t.v by simp] at HB; replace HB := Lib.hid HB
  have EV : Hid (t.v = flatR LT [t]) := Lib.hid (flatR_one LT t).symm
  have CK2 := fun (W : World) (u : Value) (h : IsD W u (ts ++ [t]) cs) => rchk12_is W h (by simp; omega) (ChkD.put_t hq hg hno)
  rw [if_neg (by omega)] at CK2
  obtain ⟨V, hV⟩ : ∃ X, t.v = X := ⟨_, rfl⟩; rw [hV] at SV v0 AT HB EV ⊢; clear hV hl hq hg hF hno hm
  go_enter Try.func18, Try.ntmps18
  go_upto_region 1 with fail
  refine F_gen (F := fun W => Code.wp _ _ _ _ W) (J := fun W => Box W (w.heap.size) ([.slice a1 ts.length c1, .slice a2 cs.length c2]) ∧ Box W (w.heap.size + 1) (V) ∧ Box W (w.heap.size + 2) (id0) ∧ Below w.heap.size w W) (And.intro (Box.alloc (Box.alloc (Box.newc rfl rfl) _) _) (And.intro (Box.alloc (Box.newc rfl (by simp)) _) (And.intro (Box.newc rfl (by simp)) (by go_grown)))) ?_
  intro w0 ⟨e_d, e_t, e_r, hB0⟩
  have hs0 := hB0.size
  have x_d0 := e_d; clear e_d
  have x_t0 := e_t; clear e_t
  have x_r0 := e_r; clear e_r
  go_wp2_with (refine wpList_load_box9 rfl _ _ rfl x_d0 rfl Try.underlying25 rfl (size_id12 _ _) ?_)
  refine (CK _ _ (HD.out.below hB0)).mono ?_
  rintro e w1 ⟨rfl, hb⟩
  have hB1 : Below w.heap.size w w1 := below_thru hB0 hb
  have hs1 := hB1.size
  have x_d1 : Box w1 (w.heap.size) ([.slice a1 ts.length c1, .slice a2 cs.length c2]) := Box.below x_d0 hb
  have x_t1 : Box w1 (w.heap.size + 1) (V) := Box.below x_t0 hb
  have x_r1 : Box w1 (w.heap.size + 2) (id0) := Box.below x_r0 hb
  clear hB0 hs0 x_d0 x_t0 x_r0
  clear hb
  have ca := (x_t1).c 0 _ v0
  have za := (x_t1).lt
  have lr := (x_r1).lt
  go_wp2_with (refine wpList_load_box9 rfl _ _ rfl x_d1 rfl Try.underlying25 rfl (size_id12 _ _) ?_)
  refine (TW _ _ (HD.out.below hB1)).mono ?_
  rintro e w2 ⟨ta, tb, rfl, oa, ob, hb⟩
  have oa := ownR_base oa (show w.heap.size + 3 ≤ _ by omega); have ob := ownR_base ob (show w.heap.size + 3 ≤ _ by omega); clear lr ca za
  obtain ⟨pa, na, rfl⟩ := own_slR oa; obtain ⟨pb, nb, rfl⟩ := own_slR ob
  have hB2 : Below w.heap.size w w2 := below_thru hB1 hb
  have hs2 := hB2.size
  have x_d2 : Box w2 (w.heap.size) ([.slice a1 ts.length c1, .slice a2 cs.length c2]) := Box.below x_d1 hb
  have x_t2 : Box w2 (w.heap.size + 1) (V) := Box.below x_t1 hb
  have x_r2 : Box w2 (w.heap.size + 2) (id0) := Box.below x_r1 hb
  clear hB1 hs1 x_d1 x_t1 x_r1
  clear hb
  have O_ra2 : Hid (w2.ownsRow (w.heap.size + 3) 34 36 (.slice pa ts.length na) (ts.length) (flatR LT ts)) := Lib.hid (oa)
  have O_rb2 : Hid (w2.ownsRow (w.heap.size + 3) 39 47 (.slice pb cs.length nb) (cs.length) (flatR LC cs)) := Lib.hid (ob)
  clear oa ob
  have low_o := (x_r2).lt
  have d_o_d := (x_d2).lt
  have d_o_t := (x_t2).lt
  have d_o_r := (x_r2).lt
  have d_o_0 := hs2
  go_upto_region 6 with (refine wpList_store_boxT12 (cs := [.slice pa ts.length na, .slice pb cs.length nb]) rfl _ _ _ rfl (Box.newc (l := id0) rfl rfl) rfl rfl (size_id12 _ _) rfl (one_id12 _ _ _ _ _ _) ?_; intro W2_0 hW2_0 tW2_0)
  have hN : Below w2.heap.size w2 W2_0 := (hW2_0.below _ _ (by omega) ((Below.refl _ w2).alloc (Nat.le_refl _) _))
  have x_o3 : Box W2_0 (w2.heap.size) ([.slice pa ts.length na, .slice pb cs.length nb]) := hW2_0.box
  have O_ra3 : Hid (W2_0.ownsRow (w.heap.size + 3) 34 36 (.slice pa ts.length na) (ts.length) (flatR LT ts)) := Lib.hid (ownR_below O_ra2.out hN)
  have O_rb3 : Hid (W2_0.ownsRow (w.heap.size + 3) 39 47 (.slice pb cs.length nb) (cs.length) (flatR LC cs)) := Lib.hid (ownR_below O_rb2.out hN)
  clear O_ra2 O_rb2
  have hB3 : Below w.heap.size w W2_0 := below_thru hB2 hN
  have hs3 := hB3.size
  have x_d3 : Box W2_0 (w.heap.size) ([.slice a1 ts.length c1, .slice a2 cs.length c2]) := Box.below x_d2 hN
  have x_t3 : Box W2_0 (w.heap.size + 1) (V) := Box.below x_t2 hN
  have x_r3 : Box W2_0 (w.heap.size + 2) (id0) := Box.below x_r2 hN
  clear hB2 hs2 x_d2 x_t2 x_r2
  clear hN hW2_0
  have Y_o3 : Ty W2_0 (w2.heap.size) 25 := tW2_0 _ (Ty.newc rfl); clear tW2_0
  obtain ⟨bo, hbo⟩ : ∃ b, w2.heap.size = b := ⟨_, rfl⟩; rw [hbo] at low_o x_o3 Y_o3 ⊢; clear hbo
  have cb := (x_d3).c 0 _ rfl
  have zb := (x_d3).lt
  go_wp2_with (refine wpList_load_box9 rfl _ _ rfl x_t3 rfl Try.underlying34 rfl SV.out ?_)
  refine (AT _ _ (H1.out.below hB3)).mono ?_
  rintro e w4 ⟨rfl, hb⟩
  clear cb zb
  have O_ra4 : Hid (w4.ownsRow (w.heap.size + 3) 34 36 (.slice pa ts.length na) (ts.length) (flatR LT ts)) := Lib.hid (ownR_below O_ra3.out hb)
  have O_rb4 : Hid (w4.ownsRow (w.heap.size + 3) 39 47 (.slice pb cs.length nb) (cs.length) (flatR LC cs)) := Lib.hid (ownR_below O_rb3.out hb)
  have Y_o4 : Ty w4 (bo) 25 := Ty.below Y_o3 hb
  clear O_ra3 O_rb3 Y_o3
  have hB4 : Below w.heap.size w w4 := below_thru hB3 hb
  have hs4 := hB4.size
  have x_d4 : Box w4 (w.heap.size) ([.slice a1 ts.length c1, .slice a2 cs.length c2]) := Box.below x_d3 hb
  have x_t4 : Box w4 (w.heap.size + 1) (V) := Box.below x_t3 hb
  have x_r4 : Box w4 (w.heap.size + 2) (id0) := Box.below x_r3 hb
  have x_o4 : Box w4 (bo) ([.slice pa ts.length na, .slice pb cs.length nb]) := Box.below x_o3 hb
  clear hB3 hs3 x_d3 x_t3 x_r3 x_o3
  clear hb
  have cc := (x_o4).c 0 _ rfl
  have zc := (x_o4).lt
  have lz_d := (x_d4).lt
  have lz_t := (x_t4).lt
  have lz_r := (x_r4).lt
  have HIR : IsR LT (w4.alloc (.cells V.toArray 34)) (.slice (some ⟨w4.heap.size, 0, none⟩) 1 1) [t] := IsR.ofBox (Box.newc rfl rfl) EV.out rfl (by decide)
  have OM : (w4.alloc (.cells V.toArray 34)).ownsRow (w.heap.size + 3) 34 36 (.slice pa ts.length na) (ts.length) (flatR LT ts) := ownR_below O_ra4.out ((Below.refl _ _).alloc (Nat.le_refl _) _)
  have OX : (w4.alloc (.cells V.toArray 34)).ownsRow (w.heap.size + 3) 39 47 (.slice pb cs.length nb) (cs.length) (flatR LC cs) := ownR_below O_rb4.out ((Below.refl _ _).alloc (Nat.le_refl _) _)
  have XO := Box.alloc x_o4 (.cells V.toArray 34); have YO := Ty.alloc Y_o4 (.cells V.toArray 34)
  have zb : w.heap.size + 3 ≤ (w4.alloc (.cells V.toArray 34)).heap.size := by simp; omega
  go_upto_region 12 with (first | (refine wpList_load_box9 rfl _ _ rfl x_t4 rfl Try.underlying34 rfl SV.out ?_) | (refine wpList_bsliceN rfl 22 1 _ rfl (us := #[(0, .agg V.toArray)]) (by rfl) (HB.out _) ?_) | (at_builtin; refine wpList_append_rows rfl LT _ _ 22 rfl (w.heap.size + 3) 34 ti (.agg zT12.toArray) 36 56 rfl Try.underlying22 hin hz0 hz1 hz2 rfl _ ts.length _ rfl OM _ [t] rfl HIR (by have := HLL.out; unfold maxLen; simp; omega) (by have := HLL.out; simp; omega) zb ?_; intro v40 w40 own4 gr4; obtain ⟨p4, n4, rfl⟩ := own_slR own4; have XP := Box.grownT XO YO OM (by decide) gr4) | (refine wpList_store_cell (k := 0) (ws := [.slice p4 (ts.length + 1) n4, .slice pb cs.length nb]) (v := .slice p4 (ts.length + 1) n4) rfl _ _ _ rfl XP.1 rfl rfl rfl rfl size_sT (show 0 < 2 by decide) rfl ?_; intro w50 hS5))
  have hKB := (Below.refl (w.heap.size + 3) _).grown gr4 zb (ownR_block OM)
  have x_d5 : Box w50 (w.heap.size) ([.slice a1 ts.length c1, .slice a2 cs.length c2]) := hS5.past _ _ (by omega) (Box.keep12 (x_d4.alloc _) hKB (by omega))
  have x_t5 : Box w50 (w.heap.size + 1) (V) := hS5.past _ _ (by omega) (Box.keep12 (x_t4.alloc _) hKB (by omega))
  have x_r5 : Box w50 (w.heap.size + 2) (id0) := hS5.past _ _ (by omega) (Box.keep12 (x_r4.alloc _) hKB (by omega))
  have x_o5 : Box w50 bo [.slice p4 (ts.length + 1) n4, .slice pb cs.length nb] := hS5.box
  have hB5 : Below w.heap.size w w50 := hS5.below _ _ (by omega) ((hB4.alloc hs4 _).trans (hKB.mono (by omega))); have hs5 := hB5.size
  have O_m5 := Lib.hid (ownR_storedT hS5 XP.2 own4 (by decide)); have O_x5 := Lib.hid (ownR_storedT hS5 XP.2 (ownR_apart OX OM (by decide) gr4) (by decide))
  rw [show flatR LT ts ++ flatR LT [t] = flatR LT (ts ++ [t]) from (flatR_app LT _ _).symm] at O_m5
  clear hS5 XP own4 gr4 hKB zb XO YO OX OM HIR low_o x_d4 x_t4 x_r4 x_o4 hB4 hs4 lz_d lz_t lz_r Y_o4 O_ra4 O_rb4 cc zc
  have hlen : (ts ++ [t]).length = ts.length + 1 := by simp
  have ID : IsD w50 (.agg [.slice p4 (ts.length + 1) n4, .slice pb cs.length nb].toArray) (ts ++ [t]) cs := ⟨_, _, rfl, IsR.own O_m5.out rfl hlen.symm, IsR.own O_x5.out rfl rfl⟩
  go_wp2_with (refine wpList_load_box9 rfl _ _ rfl x_o5 rfl Try.underlying25 rfl (size_id12 _ _) ?_)
  refine (CK2 _ _ ID).mono ?_
  rintro e w60 ⟨rfl, hb⟩
  have O_m6 := Lib.hid (ownR_below O_m5.out hb); have O_x6 := Lib.hid (ownR_below O_x5.out hb); clear ID O_m5 O_x5
  have hB6 : Below w.heap.size w w60 := below_thru hB5 hb
  have hs6 := hB6.size
  have x_d6 : Box w60 (w.heap.size) ([.slice a1 ts.length c1, .slice a2 cs.length c2]) := Box.below x_d5 hb
  have x_t6 : Box w60 (w.heap.size + 1) (V) := Box.below x_t5 hb
  have x_r6 : Box w60 (w.heap.size + 2) (id0) := Box.below x_r5 hb
  have x_o6 : Box w60 (bo) ([.slice p4 (ts.length + 1) n4, .slice pb cs.length nb]) := Box.below x_o5 hb
  clear hB5 hs5 x_d5 x_t5 x_r5 x_o5
  clear hb
  clear O_m6 O_x6 hlen
  have lq := (x_r6).lt
  go_wp2_with (first | (refine wpList_build9 rfl 25 _ rfl (us := #[]) (by rfl) (BI _) ?_) | (refine wpList_store_box (cs := id0) rfl _ _ _ rfl x_r6 rfl rfl SI.out rfl OI.out ?_; intro W99 hW99))
  exact bodyPost_ret (results_box2 Try.results18 hW99.box rfl rfl Try.underlying25 rfl SI.out) rfl ⟨_, _, rfl, ownR_none, ownR_none, hW99.below _ _ (by omega) hB6⟩

theorem rtok12_is {v : Value} {ts : List Tk} {cs : List Cmd} (t : Tk) (hl : ts.length + cs.length ≤ 180) {us : List Tk} {ds : List Cmd} {q : Int} (h : PutT ts cs t us ds q) (w : World) (h1 : IsD w v ts cs) : Calls Try.prog 18 #[v, .agg t.v.toArray] w (GivesDE us ds q w) := by
  rcases h with ⟨hn, hq, rfl, rfl⟩ | ⟨hq, r, hx, hr⟩
  · exact rtok12_a t hl hn hq w h1
  · obtain ⟨i, hF⟩ := Fnd.ex (fun u : Tk => u.bare = t.bare) ts
    have hd := hq.dst.1
    rcases hx with ⟨rfl, hg, rfl⟩ | ⟨hg, ⟨rfl, ⟨u, hu, hb, hne⟩, rfl⟩ | ⟨rfl, hm, rfl⟩ | ⟨hno, ⟨rfl, h100, rfl⟩ | ⟨rfl, h100, rfl⟩⟩⟩
    · rcases hr with ⟨_, rfl, rfl⟩ | ⟨h, _⟩
      · exact rtok12_b t hl hq hg w h1
      · cases h
    · rcases hr with ⟨_, rfl, rfl⟩ | ⟨h, _⟩
      · obtain ⟨n, y, e, hy, py⟩ := hF.pos (Int.not_lt.1 fun h => (hF.neg_iff.1 h) u hu hb)
        refine rtok12_c t hl hq hg hF e hy (fun e2 => hne ?_) w h1
        subst e2
        exact hd.one hu (List.mem_of_getElem? hy) hb
      · cases h
    · rcases hr with ⟨h, _⟩ | ⟨h, rfl⟩
      · cases h
      · cases h
        obtain ⟨n, e, hy⟩ := (fnd_mem hd hF).1 hm
        exact rtok12_d t hl hq hg hF e hy rfl w h1
    · rcases hr with ⟨_, rfl, rfl⟩ | ⟨h, _⟩
      · exact rtok12_f t hl hq hg hF (hF.none_of hno) hno h100 w h1
      · cases h
    · rcases hr with ⟨h, _⟩ | ⟨h, rfl⟩
      · cases h
      · cases h
        exact rtok12_e t hl hq hg hF (hF.none_of hno) hno h100 w h1

end Go.Proofs.Ytpccahdbienjeaa
