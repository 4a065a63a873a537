/-
  ArenaNames, walked.
-/
import Derived.Test.YtepimljjbmoojaaArL
import Derived.Test.YtepimljjbmoojaaRegInv
namespace Go.Proofs.Ytepimljjbmoojaa
open Go.RowKit

theorem ac_of_bool {ops : Array Oper} (h : (ops.toList.zipIdx.all fun p => p.1.after.all fun e => decide (e.on < p.2)) = true) : ∀ (i : Nat) (o : Oper), ops[i]? = some o → ∀ e ∈ o.after, e.on < i := fun i o ho e he => by
  have := List.all_eq_true.1 h (o, i) (by
    rw [List.mem_zipIdx_iff_getElem?]
    simpa using ho)
  simp only [Array.all_eq_true_iff_forall_mem, decide_eq_true_eq] at this
  exact this e he
/-- An arena that is not valid, as a value. -/
def BadA (w : World) (v : Value) : Prop := ∃ (V : List Value) (A : Ar), v = .agg V.toArray ∧ V.length = 3 ∧ (∀ u ∈ V, u.oneCell' = true) ∧ IsA w v A ∧ ∀ l, ¬ Valid A l
theorem BadA.below {w w' : World} {v : Value} (h : BadA w v) (hb : Below w.heap.size w w') : BadA w' v :=
  let ⟨V, A, e, h1, h2, h3, h4⟩ := h; ⟨V, A, e, h1, h2, h3.below hb, h4⟩
structure V3 where
  v : List Value
  len : v.length = 3
  one : ∀ u ∈ v, u.oneCell' = true
def LV : Lay V3 := ⟨V3.v, 3, by decide, V3.len, V3.one⟩
/-- Ten of them in a row of the call's own. -/
def Bads (w : World) (v : Value) : Prop := ∃ (g : Nat) (Vs : List V3), v = .slice (some ⟨g, 0, none⟩) 10 10 ∧ Vs.length = 10 ∧ Box w g (flatR LV Vs) ∧ ∀ V ∈ Vs, BadA w (.agg V.v.toArray)
theorem Bads.below {w w' : World} {v : Value} (h : Bads w v) (hb : Below w.heap.size w w') : Bads w' v :=
  let ⟨g, Vs, e, h1, h2, h3⟩ := h; ⟨g, Vs, e, h1, h2.below hb, fun V hV => (h3 V hV).below hb⟩
theorem isA_agg {w : World} {a b : Value} {xs : List Int} {bs : List Bool} {f : Int} (h1 : IsR LI w a xs) (h2 : IsR LB w b bs) (hn : ∀ l, ¬ Valid ⟨xs, bs, f⟩ l) : BadA w (.agg #[a, b, .int .i64 f]) := by
  refine ⟨[a, b, .int .i64 f], ⟨xs, bs, f⟩, rfl, rfl, ?_, ⟨a, b, rfl, h1, h2⟩, hn⟩
  obtain ⟨_, _, rfl, _⟩ := h1
  obtain ⟨_, _, rfl, _⟩ := h2
  intro u hu
  simp at hu
  rcases hu with rfl | rfl | rfl <;> rfl
theorem bad_len {A : Ar} (h : A.nx.length < 1 ∨ 16 < A.nx.length ∨ A.us.length ≠ A.nx.length) : ∀ l, ¬ Valid A l := fun l hl => by
  have := hl.pos
  have := hl.most
  have := hl.len
  omega
theorem bad0 : ∀ l, ¬ Valid ⟨[], [], 0⟩ l := bad_len (Or.inl (by decide))
theorem bad1 : ∀ l, ¬ Valid ⟨nk 17 0, List.replicate 17 false, 0⟩ l := bad_len (Or.inr (Or.inl (by decide)))
theorem bad2 : ∀ l, ¬ Valid ⟨[-1], [], 0⟩ l := bad_len (Or.inr (Or.inr (by decide)))
theorem bad3 : ∀ l, ¬ Valid ⟨[0], [false], 0⟩ l := fun _ => (show Run ⟨[0], [false], 0⟩ [0] ((0 : Nat) : Int) from (Run.start _).step (l := []) (i := 0) rfl rfl (by decide)).twice (by simp)
theorem bad4 : ∀ l, ¬ Valid ⟨[-1], [false], 1⟩ l := fun _ => (Run.start _).out (by decide) (Or.inr (by decide))
theorem bad5 : ∀ l, ¬ Valid ⟨[-1], [false], -2⟩ l := fun _ => (Run.start _).out (by decide) (Or.inl (by decide))
theorem bad6 : ∀ l, ¬ Valid ⟨[-1, -1], [false, false], 0⟩ l := fun l hl => by
  have e := (show Run ⟨[-1, -1], [false, false], 0⟩ [0] (-1) from (Run.start _).step (l := []) (i := 0) rfl rfl (by decide)).fin hl
  subst e
  have := hl.used 1 (by decide)
  simp at this
theorem bad7 : ∀ l, ¬ Valid ⟨[-1], [true], 0⟩ l := fun _ => (show Run ⟨[-1], [true], 0⟩ [] ((0 : Nat) : Int) from Run.start _).taken rfl
theorem bad8 : ∀ l, ¬ Valid ⟨[-1, 0], [false, true], 0⟩ l := fun l hl => by
  have e := (show Run ⟨[-1, 0], [false, true], 0⟩ [0] (-1) from (Run.start _).step (l := []) (i := 0) rfl rfl (by decide)).fin hl
  subst e
  have := hl.next 1 (by decide) (by simp)
  simp at this
theorem bad9 : ∀ l, ¬ Valid ⟨[-1], [false], -1⟩ l := fun l hl => by
  have e := (show Run ⟨[-1], [false], -1⟩ [] (-1) from Run.start _).fin hl
  subst e
  have := hl.used 0 (by decide)
  simp at this
def kI13 : List (Option (List Int)) := [none, some (nk 17 0), none, none, some ([-1]), none, some ([0]), none, none, some ([-1]), none, none, some ([-1]), none, none, some ([-1, -1]), none, none, some ([-1]), none, none, some ([-1, 0]), none, none, some ([-1]), none, none, none, none]
def kB13 : List (Option (List Bool)) := [none, none, some (List.replicate 17 false), none, none, none, none, some ([false]), none, none, some ([false]), none, none, some ([false]), none, none, some ([false, false]), none, none, some ([true]), none, none, some ([false, true]), none, none, some ([false]), none, none, none]
def kA13 : List Bool := [true, false, false, true, false, true, false, false, true, false, false, true, false, false, true, false, false, true, false, false, true, false, false, true, false, false, true, false, false]
def kR13 : List Bool := [false, false, false, false, false, false, false, false, false, false, false, false, false, false, false, false, false, false, false, false, false, false, false, false, false, false, false, true, true]
/-- What each operation's value is. -/
structure Sp13 (j : Nat) (v : Value) (w : World) : Prop where
  i : ∀ xs, kI13.getD j none = some xs → IsR LI w v xs
  b : ∀ xs, kB13.getD j none = some xs → IsR LB w v xs
  a : kA13.getD j false = true → BadA w v
  r : kR13.getD j false = true → Bads w v
theorem Sp13.below {j : Nat} {v : Value} {w w' : World} (h : Sp13 j v w) (hb : Below w.heap.size w w') : Sp13 j v w' :=
  ⟨fun xs e => (h.i xs e).below hb, fun xs e => (h.b xs e).below hb, fun e => (h.a e).below hb, fun e => (h.r e).below hb⟩
theorem sp_i {j : Nat} {v : Value} {w : World} {xs : List Int} (h1 : kI13.getD j none = some xs) (h2 : kB13.getD j none = none) (h3 : kA13.getD j false = false) (h4 : kR13.getD j false = false) (h : IsR LI w v xs) : Sp13 j v w :=
  ⟨fun ys e => (by rw [h1] at e; cases e; exact h), fun ys e => (by rw [h2] at e; cases e), fun e => (by rw [h3] at e; cases e), fun e => (by rw [h4] at e; cases e)⟩
theorem sp_b {j : Nat} {v : Value} {w : World} {xs : List Bool} (h1 : kI13.getD j none = none) (h2 : kB13.getD j none = some xs) (h3 : kA13.getD j false = false) (h4 : kR13.getD j false = false) (h : IsR LB w v xs) : Sp13 j v w :=
  ⟨fun ys e => (by rw [h1] at e; cases e), fun ys e => (by rw [h2] at e; cases e; exact h), fun e => (by rw [h3] at e; cases e), fun e => (by rw [h4] at e; cases e)⟩
theorem sp_a {j : Nat} {v : Value} {w : World} (h1 : kI13.getD j none = none) (h2 : kB13.getD j none = none) (h4 : kR13.getD j false = false) (h : BadA w v) : Sp13 j v w :=
  ⟨fun ys e => (by rw [h1] at e; cases e), fun ys e => (by rw [h2] at e; cases e), fun _ => h, fun e => (by rw [h4] at e; cases e)⟩
theorem sp_r {j : Nat} {v : Value} {w : World} (h1 : kI13.getD j none = none) (h2 : kB13.getD j none = none) (h3 : kA13.getD j false = false) (h : Bads w v) : Sp13 j v w :=
  ⟨fun ys e => (by rw [h1] at e; cases e), fun ys e => (by rw [h2] at e; cases e), fun e => (by rw [h3] at e; cases e), fun _ => h⟩
theorem sp_next {D : Nat → Prop} {us : Nat → Value} {w w' : World} {i : Nat} {v : Value} (hS : ∀ j, D j → Sp13 j (us j) w) (hb : Below w.heap.size w w') (h : Sp13 i v w') : ∀ j, D j ∨ j = i → Sp13 j (if j = i then v else us j) w' := fun j hj => by
  by_cases e : j = i
  · subst e
    rw [if_pos rfl]
    exact h
  · rw [if_neg e]
    exact (hS j (hj.resolve_right e)).below hb
theorem make_i17 (w : World) : (Instr.makeSlice 22 (.int .i64 17) (.int .i64 17)).run Try.prog w = .ok (.slice (some ⟨w.heap.size, 0, none⟩) 17 17) (w.alloc (.cells ((nk 17 0).map (Value.int .i64)).toArray 3)) := make_ints 17 (by decide) w
theorem make_b17 (w : World) : (Instr.makeSlice 23 (.int .i64 17) (.int .i64 17)).run Try.prog w = .ok (.slice (some ⟨w.heap.size, 0, none⟩) 17 17) (w.alloc (.cells (mark 17 []).toArray 4)) := make_bools 17 (by decide) w
theorem make_b1 (w : World) : (Instr.makeSlice 23 (.int .i64 1) (.int .i64 1)).run Try.prog w = .ok (.slice (some ⟨w.heap.size, 0, none⟩) 1 1) (w.alloc (.cells (mark 1 []).toArray 4)) := make_bools 1 (by decide) w
theorem make_b2 (w : World) : (Instr.makeSlice 23 (.int .i64 2) (.int .i64 2)).run Try.prog w = .ok (.slice (some ⟨w.heap.size, 0, none⟩) 2 2) (w.alloc (.cells (mark 2 []).toArray 4)) := make_bools 2 (by decide) w
theorem info_ar : (Try.prog.info? 25).map (fun i => (i.zero, i.size, i.bytes)) = some (some (.agg ar0.toArray), 3, 56) := by kernel_rfl
theorem isR_newI {w : World} (xs : List Int) (n : Nat) (c : Array Value) (hc : c = (xs.map (Value.int .i64)).toArray) (hn : n = xs.length) (hl : xs.length ≤ 1000) : IsR LI (w.alloc (.cells c 3)) (.slice (some ⟨w.heap.size, 0, none⟩) n n) xs := IsR.built xs rfl (by rw [hc, flatI]) hn hn hl
theorem isR_newB {w : World} (xs : List Bool) (n : Nat) (c : Array Value) (hc : c = (xs.map Value.bool).toArray) (hn : n = xs.length) (hl : xs.length ≤ 1000) : IsR LB (w.alloc (.cells c 4)) (.slice (some ⟨w.heap.size, 0, none⟩) n n) xs := IsR.built xs rfl (by rw [hc, flatB]) hn hn hl

def full13 : Ar := ⟨[-1], [true], -1⟩
theorem vf_13 : Valid full13 [] := ⟨by decide, by decide, rfl, rfl, List.nodup_nil, fun i hi => by
  obtain rfl : i = 0 := by have : i < 1 := hi; omega
  rfl, fun i hi _ => by
  obtain rfl : i = 0 := by have : i < 1 := hi; omega
  rfl⟩
theorem tf_13 : TkA full13 Ar.zero 0 18 := Or.inr (Or.inl ⟨rfl, vf_13, rfl, rfl⟩)
theorem nw_0 : NwA 0 Ar.zero 2 := Or.inl ⟨rfl, Or.inl (by decide), rfl⟩
theorem nw_17 : NwA 17 Ar.zero 2 := Or.inl ⟨rfl, Or.inr (by decide), rfl⟩
theorem nw_16 : NwA 16 (newA 16) 0 := Or.inr ⟨rfl, 16, 15, rfl, rfl, by decide, rfl⟩
theorem nw_1 : NwA 1 (newA 1) 0 := Or.inr ⟨rfl, 1, 0, rfl, rfl, by decide, rfl⟩
theorem go_13 : GvA (newA 1) 0 Ar.zero 36 := Or.inr ⟨_, newA_valid (by decide) (by decide), Or.inr ⟨0, rfl, by decide, Or.inl ⟨rfl, rfl, rfl⟩⟩⟩
theorem ga_13 : GvA full13 1 Ar.zero 2 := Or.inr ⟨_, vf_13, Or.inl ⟨rfl, Or.inr (by decide), rfl⟩⟩
theorem gb_13 : GvA full13 (-1) Ar.zero 2 := Or.inr ⟨_, vf_13, Or.inl ⟨rfl, Or.inl (by decide), rfl⟩⟩
theorem gx_13 : GvA full13 0 (newA 1) 0 := Or.inr ⟨_, vf_13, Or.inr ⟨0, rfl, by decide, Or.inr ⟨rfl, rfl, rfl⟩⟩⟩
theorem cf_13 : CtA full13 1 0 0 := Or.inr ⟨rfl, _, vf_13, rfl, rfl⟩
theorem cz_13 : CtA Ar.zero 0 0 8 := Or.inl ⟨rfl, bad_len (Or.inl (by decide)), rfl, rfl⟩

set_option maxRecDepth 100000 in
set_option maxHeartbeats 6400000 in
theorem names13_is (w : World) : Calls Try.prog 4 #[] w fun e w' => e = .returned (.bool true) ∧ Below w.heap.size w w' := by
  have AL := fun W => alive13_is W
  have hB0 := Below.refl w.heap.size w
  have hs0 := hB0.size
  go_enter Try.func4, Try.ntmps4
  go_upto_region 1 with fail
  refine wp_region_inv (I := fun D a W => ∃ us : Nat → Value, a = { tmps := #[.bool false, us 28, undef, undef, undef, undef, undef, undef, undef, undef, undef, undef, undef, undef, undef, undef, undef, undef, undef, undef, undef, undef, undef, undef, undef, undef, undef, undef, undef, undef, undef, undef, us 0, us 1, us 2, us 3, us 4, us 5, us 6, us 7, us 8, us 9, us 10, us 11, us 12, us 13, us 14, us 15, us 16, us 17, us 18, us 19, us 20, us 21, us 22, us 23, us 24, us 25, us 26, us 27, undef, undef, undef, undef, undef, undef, undef, undef, undef, undef, undef, undef, undef, undef, undef, undef, undef, undef, undef, undef, undef, undef, undef, undef, undef, undef, undef, undef, undef, undef, undef, undef, undef, undef, undef, undef, undef, undef, undef, undef, undef, undef, undef, undef, undef, undef, undef, undef, undef, undef, undef, undef, undef, undef, undef, undef, undef, undef, undef, undef, undef, undef, undef, undef, undef, undef, undef, undef, undef, undef, undef, undef, undef, undef, undef, undef, undef, undef, undef, undef, undef, undef, undef, undef, undef, undef, undef, undef, undef, undef, undef, undef, undef, undef, undef, undef, undef, undef, undef, undef, undef, undef, undef, undef, undef, undef, undef, undef, undef, undef, undef, undef, undef, undef, undef, undef, undef, undef, undef, undef, undef, undef, undef, undef, undef, undef, undef, undef, undef, undef, undef, undef, undef, undef, undef, undef, undef, undef, undef, undef, undef, undef, undef, undef, undef, undef, undef, undef], defers := [] } ∧ Below w.heap.size w W ∧ ∀ j, D j → Sp13 j (us j) W) (by kernel_rfl) ?ac ⟨fun _ => undef, rfl, Below.drew (Below.refl _ _), fun j h => h.elim⟩ ?st ?fi
  case ac =>
    exact ac_of_bool (by kernel_rfl)
  case st =>
    refine StepsOf.cons rfl ?_ (StepsOf.cons rfl ?_ (StepsOf.cons rfl ?_ (StepsOf.cons rfl ?_ (StepsOf.cons rfl ?_ (StepsOf.cons rfl ?_ (StepsOf.cons rfl ?_ (StepsOf.cons rfl ?_ (StepsOf.cons rfl ?_ (StepsOf.cons rfl ?_ (StepsOf.cons rfl ?_ (StepsOf.cons rfl ?_ (StepsOf.cons rfl ?_ (StepsOf.cons rfl ?_ (StepsOf.cons rfl ?_ (StepsOf.cons rfl ?_ (StepsOf.cons rfl ?_ (StepsOf.cons rfl ?_ (StepsOf.cons rfl ?_ (StepsOf.cons rfl ?_ (StepsOf.cons rfl ?_ (StepsOf.cons rfl ?_ (StepsOf.cons rfl ?_ (StepsOf.cons rfl ?_ (StepsOf.cons rfl ?_ (StepsOf.cons rfl ?_ (StepsOf.cons rfl ?_ (StepsOf.cons rfl ?_ (StepsOf.cons rfl ?_ StepsOf.nil))))))))))))))))))))))))))))
    · rintro D a W ⟨us, rfl, hB, hS⟩ he K hK
      have HSP := Lib.hid (isA_agg (w := W) (f := 0) IsR.none IsR.none bad0)
      have HS := Lib.hid hS
      have HE := Lib.hid (And.intro trivial trivial)
      clear he hS 
      go_simp
      exact hK.out _ _ ⟨fun k => if k = 0 then _ else us k, rfl, hB, sp_next HS.out (Below.refl _ _) (sp_a rfl rfl rfl HSP.out)⟩
    · rintro D a W ⟨us, rfl, hB, hS⟩ he K hK
      have hm := make_i17 W
      clear he
      go_simp
      exact hK.out _ _ ⟨fun k => if k = 1 then _ else us k, rfl, hB.alloc (by have := hB.size; omega) _, sp_next hS ((Below.refl _ _).alloc (Nat.le_refl _) _) (sp_i rfl rfl rfl rfl (isR_newI (nk 17 0) 17 _ rfl rfl (by decide)))⟩
    · rintro D a W ⟨us, rfl, hB, hS⟩ he K hK
      have hm := make_b17 W
      clear he
      go_simp
      exact hK.out _ _ ⟨fun k => if k = 2 then _ else us k, rfl, hB.alloc (by have := hB.size; omega) _, sp_next hS ((Below.refl _ _).alloc (Nat.le_refl _) _) (sp_b rfl rfl rfl rfl (isR_newB (List.replicate 17 false) 17 _ (by rw [mark_new]; rfl) rfl (by decide)))⟩
    · rintro D a W ⟨us, rfl, hB, hS⟩ he K hK
      have ha := (hS 1 (he ⟨1, .data⟩ (by simp) rfl)).i _ rfl
      have hb := (hS 2 (he ⟨2, .data⟩ (by simp) rfl)).b _ rfl
      obtain ⟨pa, ca, ea, hra⟩ := id ha
      obtain ⟨pb, cb, eb, hrb⟩ := id hb
      have HSP := Lib.hid (isA_agg (w := W) (f := 0) ha hb bad1)
      rw [ea] at HSP ⊢
      rw [eb] at HSP ⊢
      have HS := Lib.hid hS
      have HE := Lib.hid (And.intro ea eb)
      clear he hS ha hra ea hb hrb eb
      go_simp
      exact hK.out _ _ ⟨fun k => if k = 3 then _ else us k, by simp [HE.out.1, HE.out.2], hB, sp_next HS.out (Below.refl _ _) (sp_a rfl rfl rfl HSP.out)⟩
    · rintro D a W ⟨us, rfl, hB, hS⟩ he K hK
      clear he
      go_simp
      exact hK.out _ _ ⟨fun k => if k = 4 then _ else us k, rfl, hB.alloc (by have := hB.size; omega) _, sp_next hS ((Below.refl _ _).alloc (Nat.le_refl _) _) (sp_i rfl rfl rfl rfl (isR_newI ([-1]) 1 _ rfl rfl (by decide)))⟩
    · rintro D a W ⟨us, rfl, hB, hS⟩ he K hK
      have ha := (hS 4 (he ⟨4, .data⟩ (by simp) rfl)).i _ rfl
      obtain ⟨pa, ca, ea, hra⟩ := id ha
      have HSP := Lib.hid (isA_agg (w := W) (f := 0) ha IsR.none bad2)
      rw [ea] at HSP ⊢
      have HS := Lib.hid hS
      have HE := Lib.hid (And.intro ea trivial)
      clear he hS ha hra ea
      go_simp
      exact hK.out _ _ ⟨fun k => if k = 5 then _ else us k, by simp [HE.out.1], hB, sp_next HS.out (Below.refl _ _) (sp_a rfl rfl rfl HSP.out)⟩
    · rintro D a W ⟨us, rfl, hB, hS⟩ he K hK
      clear he
      go_simp
      exact hK.out _ _ ⟨fun k => if k = 6 then _ else us k, rfl, hB.alloc (by have := hB.size; omega) _, sp_next hS ((Below.refl _ _).alloc (Nat.le_refl _) _) (sp_i rfl rfl rfl rfl (isR_newI ([0]) 1 _ rfl rfl (by decide)))⟩
    · rintro D a W ⟨us, rfl, hB, hS⟩ he K hK
      have hm := make_b1 W
      clear he
      go_simp
      exact hK.out _ _ ⟨fun k => if k = 7 then _ else us k, rfl, hB.alloc (by have := hB.size; omega) _, sp_next hS ((Below.refl _ _).alloc (Nat.le_refl _) _) (sp_b rfl rfl rfl rfl (isR_newB ([false]) 1 _ (by rw [mark_new]; rfl) rfl (by decide)))⟩
    · rintro D a W ⟨us, rfl, hB, hS⟩ he K hK
      have ha := (hS 6 (he ⟨6, .data⟩ (by simp) rfl)).i _ rfl
      have hb := (hS 7 (he ⟨7, .data⟩ (by simp) rfl)).b _ rfl
      obtain ⟨pa, ca, ea, hra⟩ := id ha
      obtain ⟨pb, cb, eb, hrb⟩ := id hb
      have HSP := Lib.hid (isA_agg (w := W) (f := 0) ha hb bad3)
      rw [ea] at HSP ⊢
      rw [eb] at HSP ⊢
      have HS := Lib.hid hS
      have HE := Lib.hid (And.intro ea eb)
      clear he hS ha hra ea hb hrb eb
      go_simp
      exact hK.out _ _ ⟨fun k => if k = 8 then _ else us k, by simp [HE.out.1, HE.out.2], hB, sp_next HS.out (Below.refl _ _) (sp_a rfl rfl rfl HSP.out)⟩
    · rintro D a W ⟨us, rfl, hB, hS⟩ he K hK
      clear he
      go_simp
      exact hK.out _ _ ⟨fun k => if k = 9 then _ else us k, rfl, hB.alloc (by have := hB.size; omega) _, sp_next hS ((Below.refl _ _).alloc (Nat.le_refl _) _) (sp_i rfl rfl rfl rfl (isR_newI ([-1]) 1 _ rfl rfl (by decide)))⟩
    · rintro D a W ⟨us, rfl, hB, hS⟩ he K hK
      have hm := make_b1 W
      clear he
      go_simp
      exact hK.out _ _ ⟨fun k => if k = 10 then _ else us k, rfl, hB.alloc (by have := hB.size; omega) _, sp_next hS ((Below.refl _ _).alloc (Nat.le_refl _) _) (sp_b rfl rfl rfl rfl (isR_newB ([false]) 1 _ (by rw [mark_new]; rfl) rfl (by decide)))⟩
    · rintro D a W ⟨us, rfl, hB, hS⟩ he K hK
      have ha := (hS 9 (he ⟨9, .data⟩ (by simp) rfl)).i _ rfl
      have hb := (hS 10 (he ⟨10, .data⟩ (by simp) rfl)).b _ rfl
      obtain ⟨pa, ca, ea, hra⟩ := id ha
      obtain ⟨pb, cb, eb, hrb⟩ := id hb
      have HSP := Lib.hid (isA_agg (w := W) (f := 1) ha hb bad4)
      rw [ea] at HSP ⊢
      rw [eb] at HSP ⊢
      have HS := Lib.hid hS
      have HE := Lib.hid (And.intro ea eb)
      clear he hS ha hra ea hb hrb eb
      go_simp
      exact hK.out _ _ ⟨fun k => if k = 11 then _ else us k, by simp [HE.out.1, HE.out.2], hB, sp_next HS.out (Below.refl _ _) (sp_a rfl rfl rfl HSP.out)⟩
    · rintro D a W ⟨us, rfl, hB, hS⟩ he K hK
      clear he
      go_simp
      exact hK.out _ _ ⟨fun k => if k = 12 then _ else us k, rfl, hB.alloc (by have := hB.size; omega) _, sp_next hS ((Below.refl _ _).alloc (Nat.le_refl _) _) (sp_i rfl rfl rfl rfl (isR_newI ([-1]) 1 _ rfl rfl (by decide)))⟩
    · rintro D a W ⟨us, rfl, hB, hS⟩ he K hK
      have hm := make_b1 W
      clear he
      go_simp
      exact hK.out _ _ ⟨fun k => if k = 13 then _ else us k, rfl, hB.alloc (by have := hB.size; omega) _, sp_next hS ((Below.refl _ _).alloc (Nat.le_refl _) _) (sp_b rfl rfl rfl rfl (isR_newB ([false]) 1 _ (by rw [mark_new]; rfl) rfl (by decide)))⟩
    · rintro D a W ⟨us, rfl, hB, hS⟩ he K hK
      have ha := (hS 12 (he ⟨12, .data⟩ (by simp) rfl)).i _ rfl
      have hb := (hS 13 (he ⟨13, .data⟩ (by simp) rfl)).b _ rfl
      obtain ⟨pa, ca, ea, hra⟩ := id ha
      obtain ⟨pb, cb, eb, hrb⟩ := id hb
      have HSP := Lib.hid (isA_agg (w := W) (f := -2) ha hb bad5)
      rw [ea] at HSP ⊢
      rw [eb] at HSP ⊢
      have HS := Lib.hid hS
      have HE := Lib.hid (And.intro ea eb)
      clear he hS ha hra ea hb hrb eb
      go_simp
      exact hK.out _ _ ⟨fun k => if k = 14 then _ else us k, by simp [HE.out.1, HE.out.2], hB, sp_next HS.out (Below.refl _ _) (sp_a rfl rfl rfl HSP.out)⟩
    · rintro D a W ⟨us, rfl, hB, hS⟩ he K hK
      clear he
      go_simp
      exact hK.out _ _ ⟨fun k => if k = 15 then _ else us k, rfl, hB.alloc (by have := hB.size; omega) _, sp_next hS ((Below.refl _ _).alloc (Nat.le_refl _) _) (sp_i rfl rfl rfl rfl (isR_newI ([-1, -1]) 2 _ rfl rfl (by decide)))⟩
    · rintro D a W ⟨us, rfl, hB, hS⟩ he K hK
      have hm := make_b2 W
      clear he
      go_simp
      exact hK.out _ _ ⟨fun k => if k = 16 then _ else us k, rfl, hB.alloc (by have := hB.size; omega) _, sp_next hS ((Below.refl _ _).alloc (Nat.le_refl _) _) (sp_b rfl rfl rfl rfl (isR_newB ([false, false]) 2 _ (by rw [mark_new]; rfl) rfl (by decide)))⟩
    · rintro D a W ⟨us, rfl, hB, hS⟩ he K hK
      have ha := (hS 15 (he ⟨15, .data⟩ (by simp) rfl)).i _ rfl
      have hb := (hS 16 (he ⟨16, .data⟩ (by simp) rfl)).b _ rfl
      obtain ⟨pa, ca, ea, hra⟩ := id ha
      obtain ⟨pb, cb, eb, hrb⟩ := id hb
      have HSP := Lib.hid (isA_agg (w := W) (f := 0) ha hb bad6)
      rw [ea] at HSP ⊢
      rw [eb] at HSP ⊢
      have HS := Lib.hid hS
      have HE := Lib.hid (And.intro ea eb)
      clear he hS ha hra ea hb hrb eb
      go_simp
      exact hK.out _ _ ⟨fun k => if k = 17 then _ else us k, by simp [HE.out.1, HE.out.2], hB, sp_next HS.out (Below.refl _ _) (sp_a rfl rfl rfl HSP.out)⟩
    · rintro D a W ⟨us, rfl, hB, hS⟩ he K hK
      clear he
      go_simp
      exact hK.out _ _ ⟨fun k => if k = 18 then _ else us k, rfl, hB.alloc (by have := hB.size; omega) _, sp_next hS ((Below.refl _ _).alloc (Nat.le_refl _) _) (sp_i rfl rfl rfl rfl (isR_newI ([-1]) 1 _ rfl rfl (by decide)))⟩
    · rintro D a W ⟨us, rfl, hB, hS⟩ he K hK
      clear he
      go_simp
      exact hK.out _ _ ⟨fun k => if k = 19 then _ else us k, rfl, hB.alloc (by have := hB.size; omega) _, sp_next hS ((Below.refl _ _).alloc (Nat.le_refl _) _) (sp_b rfl rfl rfl rfl (isR_newB ([true]) 1 _ rfl rfl (by decide)))⟩
    · rintro D a W ⟨us, rfl, hB, hS⟩ he K hK
      have ha := (hS 18 (he ⟨18, .data⟩ (by simp) rfl)).i _ rfl
      have hb := (hS 19 (he ⟨19, .data⟩ (by simp) rfl)).b _ rfl
      obtain ⟨pa, ca, ea, hra⟩ := id ha
      obtain ⟨pb, cb, eb, hrb⟩ := id hb
      have HSP := Lib.hid (isA_agg (w := W) (f := 0) ha hb bad7)
      rw [ea] at HSP ⊢
      rw [eb] at HSP ⊢
      have HS := Lib.hid hS
      have HE := Lib.hid (And.intro ea eb)
      clear he hS ha hra ea hb hrb eb
      go_simp
      exact hK.out _ _ ⟨fun k => if k = 20 then _ else us k, by simp [HE.out.1, HE.out.2], hB, sp_next HS.out (Below.refl _ _) (sp_a rfl rfl rfl HSP.out)⟩
    · rintro D a W ⟨us, rfl, hB, hS⟩ he K hK
      clear he
      go_simp
      exact hK.out _ _ ⟨fun k => if k = 21 then _ else us k, rfl, hB.alloc (by have := hB.size; omega) _, sp_next hS ((Below.refl _ _).alloc (Nat.le_refl _) _) (sp_i rfl rfl rfl rfl (isR_newI ([-1, 0]) 2 _ rfl rfl (by decide)))⟩
    · rintro D a W ⟨us, rfl, hB, hS⟩ he K hK
      clear he
      go_simp
      exact hK.out _ _ ⟨fun k => if k = 22 then _ else us k, rfl, hB.alloc (by have := hB.size; omega) _, sp_next hS ((Below.refl _ _).alloc (Nat.le_refl _) _) (sp_b rfl rfl rfl rfl (isR_newB ([false, true]) 2 _ rfl rfl (by decide)))⟩
    · rintro D a W ⟨us, rfl, hB, hS⟩ he K hK
      have ha := (hS 21 (he ⟨21, .data⟩ (by simp) rfl)).i _ rfl
      have hb := (hS 22 (he ⟨22, .data⟩ (by simp) rfl)).b _ rfl
      obtain ⟨pa, ca, ea, hra⟩ := id ha
      obtain ⟨pb, cb, eb, hrb⟩ := id hb
      have HSP := Lib.hid (isA_agg (w := W) (f := 0) ha hb bad8)
      rw [ea] at HSP ⊢
      rw [eb] at HSP ⊢
      have HS := Lib.hid hS
      have HE := Lib.hid (And.intro ea eb)
      clear he hS ha hra ea hb hrb eb
      go_simp
      exact hK.out _ _ ⟨fun k => if k = 23 then _ else us k, by simp [HE.out.1, HE.out.2], hB, sp_next HS.out (Below.refl _ _) (sp_a rfl rfl rfl HSP.out)⟩
    · rintro D a W ⟨us, rfl, hB, hS⟩ he K hK
      clear he
      go_simp
      exact hK.out _ _ ⟨fun k => if k = 24 then _ else us k, rfl, hB.alloc (by have := hB.size; omega) _, sp_next hS ((Below.refl _ _).alloc (Nat.le_refl _) _) (sp_i rfl rfl rfl rfl (isR_newI ([-1]) 1 _ rfl rfl (by decide)))⟩
    · rintro D a W ⟨us, rfl, hB, hS⟩ he K hK
      have hm := make_b1 W
      clear he
      go_simp
      exact hK.out _ _ ⟨fun k => if k = 25 then _ else us k, rfl, hB.alloc (by have := hB.size; omega) _, sp_next hS ((Below.refl _ _).alloc (Nat.le_refl _) _) (sp_b rfl rfl rfl rfl (isR_newB ([false]) 1 _ (by rw [mark_new]; rfl) rfl (by decide)))⟩
    · rintro D a W ⟨us, rfl, hB, hS⟩ he K hK
      have ha := (hS 24 (he ⟨24, .data⟩ (by simp) rfl)).i _ rfl
      have hb := (hS 25 (he ⟨25, .data⟩ (by simp) rfl)).b _ rfl
      obtain ⟨pa, ca, ea, hra⟩ := id ha
      obtain ⟨pb, cb, eb, hrb⟩ := id hb
      have HSP := Lib.hid (isA_agg (w := W) (f := -1) ha hb bad9)
      rw [ea] at HSP ⊢
      rw [eb] at HSP ⊢
      have HS := Lib.hid hS
      have HE := Lib.hid (And.intro ea eb)
      clear he hS ha hra ea hb hrb eb
      go_simp
      exact hK.out _ _ ⟨fun k => if k = 26 then _ else us k, by simp [HE.out.1, HE.out.2], hB, sp_next HS.out (Below.refl _ _) (sp_a rfl rfl rfl HSP.out)⟩
    · rintro D a W ⟨us, rfl, hB, hS⟩ he K hK
      obtain ⟨Z0, A0, e0, l0, o0, h0, n0⟩ := (hS 0 (he ⟨0, .data⟩ (by simp) rfl)).a rfl
      obtain ⟨Z1, A1, e1, l1, o1, h1, n1⟩ := (hS 3 (he ⟨3, .data⟩ (by simp) rfl)).a rfl
      obtain ⟨Z2, A2, e2, l2, o2, h2, n2⟩ := (hS 5 (he ⟨5, .data⟩ (by simp) rfl)).a rfl
      obtain ⟨Z3, A3, e3, l3, o3, h3, n3⟩ := (hS 8 (he ⟨8, .data⟩ (by simp) rfl)).a rfl
      obtain ⟨Z4, A4, e4, l4, o4, h4, n4⟩ := (hS 11 (he ⟨11, .data⟩ (by simp) rfl)).a rfl
      obtain ⟨Z5, A5, e5, l5, o5, h5, n5⟩ := (hS 14 (he ⟨14, .data⟩ (by simp) rfl)).a rfl
      obtain ⟨Z6, A6, e6, l6, o6, h6, n6⟩ := (hS 17 (he ⟨17, .data⟩ (by simp) rfl)).a rfl
      obtain ⟨Z7, A7, e7, l7, o7, h7, n7⟩ := (hS 20 (he ⟨20, .data⟩ (by simp) rfl)).a rfl
      obtain ⟨Z8, A8, e8, l8, o8, h8, n8⟩ := (hS 23 (he ⟨23, .data⟩ (by simp) rfl)).a rfl
      obtain ⟨Z9, A9, e9, l9, o9, h9, n9⟩ := (hS 26 (he ⟨26, .data⟩ (by simp) rfl)).a rfl
      have HB9 := Lib.hid (show ∀ V ∈ ([⟨Z0, l0, o0⟩, ⟨Z1, l1, o1⟩, ⟨Z2, l2, o2⟩, ⟨Z3, l3, o3⟩, ⟨Z4, l4, o4⟩, ⟨Z5, l5, o5⟩, ⟨Z6, l6, o6⟩, ⟨Z7, l7, o7⟩, ⟨Z8, l8, o8⟩, ⟨Z9, l9, o9⟩] : List V3), BadA W (.agg V.v.toArray) from by
        intro V hV
        simp at hV
        rcases hV with rfl | rfl | rfl | rfl | rfl | rfl | rfl | rfl | rfl | rfl
        · exact ⟨Z0, A0, rfl, l0, o0, by rw [← e0]; exact h0, n0⟩
        · exact ⟨Z1, A1, rfl, l1, o1, by rw [← e1]; exact h1, n1⟩
        · exact ⟨Z2, A2, rfl, l2, o2, by rw [← e2]; exact h2, n2⟩
        · exact ⟨Z3, A3, rfl, l3, o3, by rw [← e3]; exact h3, n3⟩
        · exact ⟨Z4, A4, rfl, l4, o4, by rw [← e4]; exact h4, n4⟩
        · exact ⟨Z5, A5, rfl, l5, o5, by rw [← e5]; exact h5, n5⟩
        · exact ⟨Z6, A6, rfl, l6, o6, by rw [← e6]; exact h6, n6⟩
        · exact ⟨Z7, A7, rfl, l7, o7, by rw [← e7]; exact h7, n7⟩
        · exact ⟨Z8, A8, rfl, l8, o8, by rw [← e8]; exact h8, n8⟩
        · exact ⟨Z9, A9, rfl, l9, o9, by rw [← e9]; exact h9, n9⟩)
      obtain ⟨ti, hin, hz0, hz1, hz2⟩ := info_parts info_ar
      have HR := run_bsliceN (P := Try.prog) W 47 25 ti _ 3 Try.underlying47 hin hz0 hz1 rfl (n := 10) [Z0, Z1, Z2, Z3, Z4, Z5, Z6, Z7, Z8, Z9] (by simp [l0, l1, l2, l3, l4, l5, l6, l7, l8, l9]) (by decide) (by simp) #[(0, us 0), (1, us 3), (2, us 5), (3, us 8), (4, us 11), (5, us 14), (6, us 17), (7, us 20), (8, us 23), (9, us 26)] (by rw [e0, e1, e2, e3, e4, e5, e6, e7, e8, e9]; rfl) rfl (by decide)
      refine step_bsliceH 59 rfl rfl _ _ _ rfl (us := #[(0, us 0), (1, us 3), (2, us 5), (3, us 8), (4, us 11), (5, us 14), (6, us 17), (7, us 20), (8, us 23), (9, us 26)]) (by rfl) HR ?_
      exact hK.out _ _ ⟨fun k => if k = 27 then _ else us k, rfl, hB.alloc (by have := hB.size; omega) _, sp_next hS ((Below.refl _ _).alloc (Nat.le_refl _) _) (sp_r rfl rfl rfl ⟨W.heap.size, [⟨Z0, l0, o0⟩, ⟨Z1, l1, o1⟩, ⟨Z2, l2, o2⟩, ⟨Z3, l3, o3⟩, ⟨Z4, l4, o4⟩, ⟨Z5, l5, o5⟩, ⟨Z6, l6, o6⟩, ⟨Z7, l7, o7⟩, ⟨Z8, l8, o8⟩, ⟨Z9, l9, o9⟩], rfl, rfl, Box.newc (by unfold flatR; rw [List.flatMap_def]; rfl) rfl, fun V hV => (HB9.out V hV).below ((Below.refl _ _).alloc (Nat.le_refl _) _)⟩)⟩
    · rintro D a W ⟨us, rfl, hB, hS⟩ he K hK
      have hr := (hS 27 (he ⟨27, .data⟩ (by simp) rfl)).r rfl
      clear he
      have HS := Lib.hid hS; clear hS
      go_simp
      exact hK.out _ _ ⟨fun k => if k = 28 then us 27 else us k, rfl, hB, sp_next HS.out (Below.refl _ _) (sp_r rfl rfl rfl hr)⟩
  case fi =>
    rintro D a W hD ⟨us, rfl, hB, hS⟩
    obtain ⟨g, Vs, e28, hl, xg, hV⟩ := (hS 28 (hD 28 (by decide))).r rfl
    rw [e28]
    clear hS hD e28
    have HV := Lib.hid hV; have HL := Lib.hid hl; clear hV hl
    have hB5 := hB; have hs5 := hB5.size; clear hB
    go_wp2_with fail
    go_loopw [2] (fun i wr => ∃ k : Nat, k ≤ 10 ∧ i = .int .i64 k ∧ Box wr g (flatR LV Vs) ∧ Below W.heap.size W wr ∧ Below w.heap.size w wr) (fun i _ => 10 - (intOf i).toNat)
    case atStart => exact ⟨0, Nat.zero_le _, rfl, xg, Below.refl _ _, hB5⟩
    case round =>
      clear xg hB5 hs5
      obtain ⟨k, hk, rfl, x_g, hBW, hB⟩ := hrel
      by_cases hlt : k < 10
      case pos =>
        obtain ⟨U, hU⟩ : ∃ U, Vs[k]? = some U := ⟨_, List.getElem?_eq_getElem (by rw [HL.out]; exact hlt)⟩
        obtain ⟨V, A, e, _, _, hI, hN⟩ := HV.out U (List.mem_of_getElem? hU)
        have HI := Lib.hid hI; have R : wr.rangeAt g (k * 3) U.v := fun j v hv => by
          have := x_g.c _ _ (flatR_at (L := LV) hU hv)
          exact this
        have SU := Lib.hid (show (Try.prog.info? 25).map (·.size) = some U.v.length by rw [U.len]; exact size_ar (.bool true) (.bool true) (.bool true))
        have TK := fun (W : World) (u : Value) (h : IsA W u A) => ptake_is (Or.inl ⟨rfl, hN, rfl, rfl⟩) W h; have CK := fun (W : World) (u : Value) (h : IsA W u A) => pchk_is W h (ChkA.bad hN)
        obtain ⟨F, hF⟩ : ∃ F, U.v = F := ⟨_, rfl⟩; rw [hF] at HI R SU; clear hF hI hN hU
        have i0 : (0 : Int) ≤ (k : Int) := (by omega); have i1 : (k : Int) < 10 := (by omega)
        have x_g20 := x_g; have hB20 := hB; have K_W_20 := hBW; clear x_g hB hBW; have hs20 := hB20.size
        have K_wr_20 : Below wr.heap.size wr wr := Below.refl _ _
        go_wp2_with (refine wpList_load_rangew rfl _ _ rfl R rfl Try.underlying25 rfl SU.out ?_)
        refine (TK _ _ (HI.out.below K_W_20)).mono ?_
        rintro e w21 ⟨vz, rfl, hI, hF, hb⟩
        obtain ⟨xz, yz, rfl, rx, ry⟩ := id hI; obtain ⟨pz, cz, rfl, hrx⟩ := id rx; obtain ⟨qz, dz, rfl, hry⟩ := id ry; clear hrx hry rx ry hF
        have K_W_21 : Below W.heap.size W w21 := below_thru K_W_20 hb
        have K_wr_21 : Below wr.heap.size wr w21 := below_thru K_wr_20 hb
        clear K_W_20 K_wr_20
        have hB21 : Below w.heap.size w w21 := below_thru hB20 hb
        have hs21 := hB21.size
        have x_g21 : Box w21 (g) (flatR LV Vs) := Box.below x_g20 hb
        clear hB20 hs20 x_g20
        clear hb
        have K_w21_21 : Below w21.heap.size w21 w21 := Below.refl _ _
        have Iz : Hid (IsA w21 (.agg [.slice pz Ar.zero.nx.length cz, .slice qz Ar.zero.us.length dz, .int .i64 Ar.zero.fr].toArray) Ar.zero) := Lib.hid hI; clear hI
        have d_z_g := (x_g21).lt
        have d_z_0 := hs21
        go_upto_region 6 with (refine wpList_store_box (cs := [.slice pz Ar.zero.nx.length cz, .slice qz Ar.zero.us.length dz, .int .i64 Ar.zero.fr]) rfl _ _ _ rfl (Box.newc (l := ar0) rfl rfl) rfl rfl (size_ar _ _ _) rfl (one_ar _ _ _ _ _ _ _) ?_; intro W21_0 hW21_0)
        have hN : Below w21.heap.size w21 W21_0 := (hW21_0.below _ _ (by omega) ((Below.refl _ w21).alloc (Nat.le_refl _) _))
        have x_z22 : Box W21_0 (w21.heap.size) ([.slice pz Ar.zero.nx.length cz, .slice qz Ar.zero.us.length dz, .int .i64 Ar.zero.fr]) := hW21_0.box
        have K_W_22 : Below W.heap.size W W21_0 := below_thru K_W_21 hN
        have K_wr_22 : Below wr.heap.size wr W21_0 := below_thru K_wr_21 hN
        have K_w21_22 : Below w21.heap.size w21 W21_0 := below_thru K_w21_21 hN
        clear K_W_21 K_wr_21 K_w21_21
        have hB22 : Below w.heap.size w W21_0 := below_thru hB21 hN
        have hs22 := hB22.size
        have x_g22 : Box W21_0 (g) (flatR LV Vs) := Box.below x_g21 hN
        clear hB21 hs21 x_g21
        clear hN hW21_0
        clear K_w21_22
        clear x_z22
        have R2 := range_below R K_wr_22; clear R
        clear K_wr_22
        go_wp2_with (refine wpList_load_rangew rfl _ _ rfl R2 rfl Try.underlying25 rfl SU.out ?_)
        refine (CK _ _ (HI.out.below K_W_22)).mono ?_
        rintro e w23 ⟨rfl, hb⟩
        have K_W_23 : Below W.heap.size W w23 := below_thru K_W_22 hb
        clear K_W_22
        have hB23 : Below w.heap.size w w23 := below_thru hB22 hb
        have hs23 := hB23.size
        have x_g23 : Box w23 (g) (flatR LV Vs) := Box.below x_g22 hb
        clear hB22 hs22 x_g22
        clear hb
        clear R2
        go_wp2_with fail
        go_roundw
        case rel => exact ⟨k + 1, by omega, by go_num, x_g23, K_W_23, hB23⟩
        case measure => simp [intOf]; omega
      case neg =>
        have hd : decide ((k : Int) < 10) = false := decide_eq_false (by omega)
        clear x_g hBW HV HL
        have hB30 := hB; have hs30 := hB30.size; clear hB
        have N0 := fun W => pnew_is nw_0 W; have N17 := fun W => pnew_is nw_17 W; have N16 := fun W => pnew_is nw_16 W; have N1 := fun W => pnew_is nw_1 W; have BI := fun W => build_ar0 W
        have TF := fun (W : World) (u : Value) (h : IsA W u full13) => ptake_is tf_13 W h; have GO := fun (W : World) (u : Value) (h : IsA W u (newA 1)) => pgive_is go_13 W h; have GA := fun (W : World) (u : Value) (h : IsA W u full13) => pgive_is ga_13 W h; have GB := fun (W : World) (u : Value) (h : IsA W u full13) => pgive_is gb_13 W h; have GC := fun (W : World) (u : Value) (h : IsA W u full13) => pgive_is gx_13 W h; have CF := fun (W : World) (u : Value) (h : IsA W u full13) => pcount_is cf_13 W h; have CZ := fun (W : World) (u : Value) (h : IsA W u Ar.zero) => pcount_is cz_13 W h; have SM := fun (W : World) (u v : Value) (h : IsA W u (newA 1)) (g : IsA W v (newA 1)) => rsame_is (same_t _) W h g
        have L16 := Lib.hid (show (newA 16).nx.length = 16 by simp [newA])
        obtain ⟨A1, hA1⟩ : ∃ A, newA 1 = A := ⟨_, rfl⟩; obtain ⟨A16, hA16⟩ : ∃ A, newA 16 = A := ⟨_, rfl⟩; rw [hA1] at N1 GO GC SM; rw [hA16] at N16 L16; clear hA1 hA16
        have HFu : Hid (∀ (W : World) (g h : Nat), Box W g [.int .i64 (-1)] → Box W h [.bool true] → IsA W (.agg #[.slice (some ⟨g, 0, none⟩) 1 1, .slice (some ⟨h, 0, none⟩) 1 1, .int .i64 (-1)]) full13) := Lib.hid (fun W g h x y => IsA.boxes (A := full13) x y rfl rfl rfl ⟨by decide, by decide⟩ ⟨by decide, by decide⟩)
        obtain ⟨Fu, hFu⟩ : ∃ A, full13 = A := ⟨_, rfl⟩; rw [hFu] at HFu TF GA GB GC CF; clear hFu
        go_wp2_with fail
        refine (N0 _).mono ?_
        rintro e w31 ⟨va, rfl, hI, hF, hb⟩
        obtain ⟨xa, ya, rfl, rx, ry⟩ := id hI; obtain ⟨pa, ca, rfl, hrx⟩ := id rx; obtain ⟨qa, da, rfl, hry⟩ := id ry; clear hrx hry rx ry hF
        have hB31 : Below w.heap.size w w31 := below_thru hB30 hb
        have hs31 := hB31.size
        clear hB30 hs30
        clear hb
        have K_w31_31 : Below w31.heap.size w31 w31 := Below.refl _ _
        have Ia : Hid (IsA w31 (.agg [.slice pa Ar.zero.nx.length ca, .slice qa Ar.zero.us.length da, .int .i64 Ar.zero.fr].toArray) Ar.zero) := Lib.hid hI; clear hI
        have d_a_0 := hs31
        go_upto_region 9 with (refine wpList_store_box (cs := [.slice pa Ar.zero.nx.length ca, .slice qa Ar.zero.us.length da, .int .i64 Ar.zero.fr]) rfl _ _ _ rfl (Box.newc (l := ar0) rfl rfl) rfl rfl (size_ar _ _ _) rfl (one_ar _ _ _ _ _ _ _) ?_; intro W31_0 hW31_0)
        have hN : Below w31.heap.size w31 W31_0 := (hW31_0.below _ _ (by omega) ((Below.refl _ w31).alloc (Nat.le_refl _) _))
        have x_a32 : Box W31_0 (w31.heap.size) ([.slice pa Ar.zero.nx.length ca, .slice qa Ar.zero.us.length da, .int .i64 Ar.zero.fr]) := hW31_0.box
        have K_w31_32 : Below w31.heap.size w31 W31_0 := below_thru K_w31_31 hN
        clear K_w31_31
        have hB32 : Below w.heap.size w W31_0 := below_thru hB31 hN
        have hs32 := hB32.size
        clear hB31 hs31
        clear hN hW31_0
        clear K_w31_32
        clear x_a32
        clear hd
        go_wp2_with fail
        refine (N17 _).mono ?_
        rintro e w33 ⟨vb, rfl, hI, hF, hb⟩
        obtain ⟨xb, yb, rfl, rx, ry⟩ := id hI; obtain ⟨pb, cb, rfl, hrx⟩ := id rx; obtain ⟨qb, db, rfl, hry⟩ := id ry; clear hrx hry rx ry hF
        have hB33 : Below w.heap.size w w33 := below_thru hB32 hb
        have hs33 := hB33.size
        clear hB32 hs32
        clear hb
        have K_w33_33 : Below w33.heap.size w33 w33 := Below.refl _ _
        have Ib : Hid (IsA w33 (.agg [.slice pb Ar.zero.nx.length cb, .slice qb Ar.zero.us.length db, .int .i64 Ar.zero.fr].toArray) Ar.zero) := Lib.hid hI; clear hI
        have d_b_0 := hs33
        go_upto_region 10 with (refine wpList_store_box (cs := [.slice pb Ar.zero.nx.length cb, .slice qb Ar.zero.us.length db, .int .i64 Ar.zero.fr]) rfl _ _ _ rfl (Box.newc (l := ar0) rfl rfl) rfl rfl (size_ar _ _ _) rfl (one_ar _ _ _ _ _ _ _) ?_; intro W33_0 hW33_0)
        have hN : Below w33.heap.size w33 W33_0 := (hW33_0.below _ _ (by omega) ((Below.refl _ w33).alloc (Nat.le_refl _) _))
        have x_b34 : Box W33_0 (w33.heap.size) ([.slice pb Ar.zero.nx.length cb, .slice qb Ar.zero.us.length db, .int .i64 Ar.zero.fr]) := hW33_0.box
        have K_w33_34 : Below w33.heap.size w33 W33_0 := below_thru K_w33_33 hN
        clear K_w33_33
        have hB34 : Below w.heap.size w W33_0 := below_thru hB33 hN
        have hs34 := hB34.size
        clear hB33 hs33
        clear hN hW33_0
        clear K_w33_34
        clear x_b34
        go_wp2_with fail
        refine (N16 _).mono ?_
        rintro e w35 ⟨vm, rfl, hI, hF, hb⟩
        obtain ⟨xm, ym, rfl, rx, ry⟩ := id hI; obtain ⟨pm, cm, rfl, hrx⟩ := id rx; obtain ⟨qm, dm, rfl, hry⟩ := id ry; clear hrx hry rx ry hF
        have hB35 : Below w.heap.size w w35 := below_thru hB34 hb
        have hs35 := hB35.size
        clear hB34 hs34
        clear hb
        have K_w35_35 : Below w35.heap.size w35 w35 := Below.refl _ _
        have Im : Hid (IsA w35 (.agg [.slice pm A16.nx.length cm, .slice qm A16.us.length dm, .int .i64 A16.fr].toArray) A16) := Lib.hid hI; clear hI
        have d_m_0 := hs35
        go_upto_region 11 with (refine wpList_store_box (cs := [.slice pm A16.nx.length cm, .slice qm A16.us.length dm, .int .i64 A16.fr]) rfl _ _ _ rfl (Box.newc (l := ar0) rfl rfl) rfl rfl (size_ar _ _ _) rfl (one_ar _ _ _ _ _ _ _) ?_; intro W35_0 hW35_0)
        have hN : Below w35.heap.size w35 W35_0 := (hW35_0.below _ _ (by omega) ((Below.refl _ w35).alloc (Nat.le_refl _) _))
        have x_m36 : Box W35_0 (w35.heap.size) ([.slice pm A16.nx.length cm, .slice qm A16.us.length dm, .int .i64 A16.fr]) := hW35_0.box
        have K_w35_36 : Below w35.heap.size w35 W35_0 := below_thru K_w35_35 hN
        clear K_w35_35
        have hB36 : Below w.heap.size w W35_0 := below_thru hB35 hN
        have hs36 := hB36.size
        clear hB35 hs35
        clear hN hW35_0
        clear K_w35_36
        have lm := x_m36.lt
        go_upto_region 12 with (refine wpList_store_box (cs := [.slice (some ⟨W35_0.heap.size, 0, none⟩) 1 1, .slice (some ⟨W35_0.heap.size + 1, 0, none⟩) 1 1, .int .i64 (-1)]) rfl _ _ _ rfl (Box.newc (l := ar0) rfl (by simp)) rfl rfl (size_ar _ _ _) rfl (one_ar _ _ _ _ _ _ _) ?_; intro W8 hW8)
        have z_g := hW8.past _ _ (by omega) (Box.alloc (Box.alloc (Box.newc (l := [.int .i64 (-1)]) rfl rfl) _) _); have z_h := hW8.past _ _ (by omega) (Box.alloc (Box.newc (b := W35_0.heap.size + 1) (l := [.bool true]) rfl (by simp)) _)
        have hN : Below W35_0.heap.size W35_0 W8 := hW8.below _ _ (by omega) ((((Below.refl _ W35_0).alloc (Nat.le_refl _) _).alloc (by simp) _).alloc (by simp; omega) _)
        have IF := Lib.hid (HFu.out W8 _ _ z_g z_h); have z_f := hW8.box; clear hW8 z_g z_h HFu
        have hB37 : Below w.heap.size w W8 := below_thru hB36 hN
        have hs37 := hB37.size
        have x_m37 : Box W8 (w35.heap.size) ([.slice pm A16.nx.length cm, .slice qm A16.us.length dm, .int .i64 A16.fr]) := Box.below x_m36 hN
        clear hB36 hs36 x_m36
        clear hN
        have x_f37 : Box W8 (W35_0.heap.size + 1 + 1) [.slice (some ⟨W35_0.heap.size, 0, none⟩) 1 1, .slice (some ⟨W35_0.heap.size + 1, 0, none⟩) 1 1, .int .i64 (-1)] := z_f; clear z_f
        have K_W8_37 : Below W8.heap.size W8 W8 := Below.refl _ _
        go_wp2_with (refine wpList_load_box9 rfl _ _ rfl x_f37 rfl Try.underlying25 rfl (size_ar _ _ _) ?_)
        refine (TF _ _ (IF.out.below K_W8_37)).mono ?_
        rintro e w38 ⟨vb, rfl, hI, hF, hb⟩
        obtain ⟨xb, yb, rfl, rx, ry⟩ := id hI; obtain ⟨pb, cb, rfl, hrx⟩ := id rx; obtain ⟨qb, db, rfl, hry⟩ := id ry; clear hrx hry rx ry hF
        have K_W8_38 : Below W8.heap.size W8 w38 := below_thru K_W8_37 hb
        clear K_W8_37
        have hB38 : Below w.heap.size w w38 := below_thru hB37 hb
        have hs38 := hB38.size
        have x_m38 : Box w38 (w35.heap.size) ([.slice pm A16.nx.length cm, .slice qm A16.us.length dm, .int .i64 A16.fr]) := Box.below x_m37 hb
        have x_f38 : Box w38 (W35_0.heap.size + 1 + 1) ([.slice (some ⟨W35_0.heap.size, 0, none⟩) 1 1, .slice (some ⟨W35_0.heap.size + 1, 0, none⟩) 1 1, .int .i64 (-1)]) := Box.below x_f37 hb
        clear hB37 hs37 x_m37 x_f37
        clear hb
        have K_w38_38 : Below w38.heap.size w38 w38 := Below.refl _ _
        have Ib : Hid (IsA w38 (.agg [.slice pb Ar.zero.nx.length cb, .slice qb Ar.zero.us.length db, .int .i64 Ar.zero.fr].toArray) Ar.zero) := Lib.hid hI; clear hI
        have d_b_m := (x_m38).lt
        have d_b_f := (x_f38).lt
        have d_b_0 := hs38
        go_upto_region 13 with (refine wpList_store_box (cs := [.slice pb Ar.zero.nx.length cb, .slice qb Ar.zero.us.length db, .int .i64 Ar.zero.fr]) rfl _ _ _ rfl (Box.newc (l := ar0) rfl rfl) rfl rfl (size_ar _ _ _) rfl (one_ar _ _ _ _ _ _ _) ?_; intro W38_0 hW38_0)
        have hN : Below w38.heap.size w38 W38_0 := (hW38_0.below _ _ (by omega) ((Below.refl _ w38).alloc (Nat.le_refl _) _))
        have x_b39 : Box W38_0 (w38.heap.size) ([.slice pb Ar.zero.nx.length cb, .slice qb Ar.zero.us.length db, .int .i64 Ar.zero.fr]) := hW38_0.box
        have K_W8_39 : Below W8.heap.size W8 W38_0 := below_thru K_W8_38 hN
        have K_w38_39 : Below w38.heap.size w38 W38_0 := below_thru K_w38_38 hN
        clear K_W8_38 K_w38_38
        have hB39 : Below w.heap.size w W38_0 := below_thru hB38 hN
        have hs39 := hB39.size
        have x_m39 : Box W38_0 (w35.heap.size) ([.slice pm A16.nx.length cm, .slice qm A16.us.length dm, .int .i64 A16.fr]) := Box.below x_m38 hN
        have x_f39 : Box W38_0 (W35_0.heap.size + 1 + 1) ([.slice (some ⟨W35_0.heap.size, 0, none⟩) 1 1, .slice (some ⟨W35_0.heap.size + 1, 0, none⟩) 1 1, .int .i64 (-1)]) := Box.below x_f38 hN
        clear hB38 hs38 x_m38 x_f38
        clear hN hW38_0
        clear K_w38_39
        clear x_b39
        go_wp2_with fail
        refine (N1 _).mono ?_
        rintro e w40 ⟨vo1, rfl, hI, hF, hb⟩
        obtain ⟨xo1, yo1, rfl, rx, ry⟩ := id hI; obtain ⟨po1, co1, rfl, hrx⟩ := id rx; obtain ⟨qo1, do1, rfl, hry⟩ := id ry; clear hrx hry rx ry hF
        have K_W8_40 : Below W8.heap.size W8 w40 := below_thru K_W8_39 hb
        clear K_W8_39
        have hB40 : Below w.heap.size w w40 := below_thru hB39 hb
        have hs40 := hB40.size
        have x_m40 : Box w40 (w35.heap.size) ([.slice pm A16.nx.length cm, .slice qm A16.us.length dm, .int .i64 A16.fr]) := Box.below x_m39 hb
        have x_f40 : Box w40 (W35_0.heap.size + 1 + 1) ([.slice (some ⟨W35_0.heap.size, 0, none⟩) 1 1, .slice (some ⟨W35_0.heap.size + 1, 0, none⟩) 1 1, .int .i64 (-1)]) := Box.below x_f39 hb
        clear hB39 hs39 x_m39 x_f39
        clear hb
        have K_w40_40 : Below w40.heap.size w40 w40 := Below.refl _ _
        have Io1 : Hid (IsA w40 (.agg [.slice po1 A1.nx.length co1, .slice qo1 A1.us.length do1, .int .i64 A1.fr].toArray) A1) := Lib.hid hI; clear hI
        have d_o1_m := (x_m40).lt
        have d_o1_f := (x_f40).lt
        have d_o1_0 := hs40
        go_upto_region 14 with (refine wpList_store_box (cs := [.slice po1 A1.nx.length co1, .slice qo1 A1.us.length do1, .int .i64 A1.fr]) rfl _ _ _ rfl (Box.newc (l := ar0) rfl rfl) rfl rfl (size_ar _ _ _) rfl (one_ar _ _ _ _ _ _ _) ?_; intro W40_0 hW40_0)
        have hN : Below w40.heap.size w40 W40_0 := (hW40_0.below _ _ (by omega) ((Below.refl _ w40).alloc (Nat.le_refl _) _))
        have x_o141 : Box W40_0 (w40.heap.size) ([.slice po1 A1.nx.length co1, .slice qo1 A1.us.length do1, .int .i64 A1.fr]) := hW40_0.box
        have K_W8_41 : Below W8.heap.size W8 W40_0 := below_thru K_W8_40 hN
        have K_w40_41 : Below w40.heap.size w40 W40_0 := below_thru K_w40_40 hN
        clear K_W8_40 K_w40_40
        have hB41 : Below w.heap.size w W40_0 := below_thru hB40 hN
        have hs41 := hB41.size
        have x_m41 : Box W40_0 (w35.heap.size) ([.slice pm A16.nx.length cm, .slice qm A16.us.length dm, .int .i64 A16.fr]) := Box.below x_m40 hN
        have x_f41 : Box W40_0 (W35_0.heap.size + 1 + 1) ([.slice (some ⟨W35_0.heap.size, 0, none⟩) 1 1, .slice (some ⟨W35_0.heap.size + 1, 0, none⟩) 1 1, .int .i64 (-1)]) := Box.below x_f40 hN
        clear hB40 hs40 x_m40 x_f40
        clear hN hW40_0
        go_wp2_with (refine wpList_load_box9 rfl _ _ rfl x_o141 rfl Try.underlying25 rfl (size_ar _ _ _) ?_)
        refine (GO _ _ (Io1.out.below K_w40_41)).mono ?_
        rintro e w42 ⟨vb, rfl, hI, hF, hb⟩
        obtain ⟨xb, yb, rfl, rx, ry⟩ := id hI; obtain ⟨pb, cb, rfl, hrx⟩ := id rx; obtain ⟨qb, db, rfl, hry⟩ := id ry; clear hrx hry rx ry hF
        have K_W8_42 : Below W8.heap.size W8 w42 := below_thru K_W8_41 hb
        have K_w40_42 : Below w40.heap.size w40 w42 := below_thru K_w40_41 hb
        clear K_W8_41 K_w40_41
        have hB42 : Below w.heap.size w w42 := below_thru hB41 hb
        have hs42 := hB42.size
        have x_m42 : Box w42 (w35.heap.size) ([.slice pm A16.nx.length cm, .slice qm A16.us.length dm, .int .i64 A16.fr]) := Box.below x_m41 hb
        have x_f42 : Box w42 (W35_0.heap.size + 1 + 1) ([.slice (some ⟨W35_0.heap.size, 0, none⟩) 1 1, .slice (some ⟨W35_0.heap.size + 1, 0, none⟩) 1 1, .int .i64 (-1)]) := Box.below x_f41 hb
        have x_o142 : Box w42 (w40.heap.size) ([.slice po1 A1.nx.length co1, .slice qo1 A1.us.length do1, .int .i64 A1.fr]) := Box.below x_o141 hb
        clear hB41 hs41 x_m41 x_f41 x_o141
        clear hb
        have K_w42_42 : Below w42.heap.size w42 w42 := Below.refl _ _
        have Ib : Hid (IsA w42 (.agg [.slice pb Ar.zero.nx.length cb, .slice qb Ar.zero.us.length db, .int .i64 Ar.zero.fr].toArray) Ar.zero) := Lib.hid hI; clear hI
        have d_b_m := (x_m42).lt
        have d_b_f := (x_f42).lt
        have d_b_o1 := (x_o142).lt
        have d_b_0 := hs42
        go_upto_region 15 with (refine wpList_store_box (cs := [.slice pb Ar.zero.nx.length cb, .slice qb Ar.zero.us.length db, .int .i64 Ar.zero.fr]) rfl _ _ _ rfl (Box.newc (l := ar0) rfl rfl) rfl rfl (size_ar _ _ _) rfl (one_ar _ _ _ _ _ _ _) ?_; intro W42_0 hW42_0)
        have hN : Below w42.heap.size w42 W42_0 := (hW42_0.below _ _ (by omega) ((Below.refl _ w42).alloc (Nat.le_refl _) _))
        have x_b43 : Box W42_0 (w42.heap.size) ([.slice pb Ar.zero.nx.length cb, .slice qb Ar.zero.us.length db, .int .i64 Ar.zero.fr]) := hW42_0.box
        have K_W8_43 : Below W8.heap.size W8 W42_0 := below_thru K_W8_42 hN
        have K_w40_43 : Below w40.heap.size w40 W42_0 := below_thru K_w40_42 hN
        have K_w42_43 : Below w42.heap.size w42 W42_0 := below_thru K_w42_42 hN
        clear K_W8_42 K_w40_42 K_w42_42
        have hB43 : Below w.heap.size w W42_0 := below_thru hB42 hN
        have hs43 := hB43.size
        have x_m43 : Box W42_0 (w35.heap.size) ([.slice pm A16.nx.length cm, .slice qm A16.us.length dm, .int .i64 A16.fr]) := Box.below x_m42 hN
        have x_f43 : Box W42_0 (W35_0.heap.size + 1 + 1) ([.slice (some ⟨W35_0.heap.size, 0, none⟩) 1 1, .slice (some ⟨W35_0.heap.size + 1, 0, none⟩) 1 1, .int .i64 (-1)]) := Box.below x_f42 hN
        have x_o143 : Box W42_0 (w40.heap.size) ([.slice po1 A1.nx.length co1, .slice qo1 A1.us.length do1, .int .i64 A1.fr]) := Box.below x_o142 hN
        clear hB42 hs42 x_m42 x_f42 x_o142
        clear hN hW42_0
        clear K_w42_43
        clear x_b43
        go_wp2_with (refine wpList_load_box9 rfl _ _ rfl x_f43 rfl Try.underlying25 rfl (size_ar _ _ _) ?_)
        refine (GA _ _ (IF.out.below K_W8_43)).mono ?_
        rintro e w44 ⟨vb, rfl, hI, hF, hb⟩
        obtain ⟨xb, yb, rfl, rx, ry⟩ := id hI; obtain ⟨pb, cb, rfl, hrx⟩ := id rx; obtain ⟨qb, db, rfl, hry⟩ := id ry; clear hrx hry rx ry hF
        have K_W8_44 : Below W8.heap.size W8 w44 := below_thru K_W8_43 hb
        have K_w40_44 : Below w40.heap.size w40 w44 := below_thru K_w40_43 hb
        clear K_W8_43 K_w40_43
        have hB44 : Below w.heap.size w w44 := below_thru hB43 hb
        have hs44 := hB44.size
        have x_m44 : Box w44 (w35.heap.size) ([.slice pm A16.nx.length cm, .slice qm A16.us.length dm, .int .i64 A16.fr]) := Box.below x_m43 hb
        have x_f44 : Box w44 (W35_0.heap.size + 1 + 1) ([.slice (some ⟨W35_0.heap.size, 0, none⟩) 1 1, .slice (some ⟨W35_0.heap.size + 1, 0, none⟩) 1 1, .int .i64 (-1)]) := Box.below x_f43 hb
        have x_o144 : Box w44 (w40.heap.size) ([.slice po1 A1.nx.length co1, .slice qo1 A1.us.length do1, .int .i64 A1.fr]) := Box.below x_o143 hb
        clear hB43 hs43 x_m43 x_f43 x_o143
        clear hb
        have K_w44_44 : Below w44.heap.size w44 w44 := Below.refl _ _
        have Ib : Hid (IsA w44 (.agg [.slice pb Ar.zero.nx.length cb, .slice qb Ar.zero.us.length db, .int .i64 Ar.zero.fr].toArray) Ar.zero) := Lib.hid hI; clear hI
        have d_b_m := (x_m44).lt
        have d_b_f := (x_f44).lt
        have d_b_o1 := (x_o144).lt
        have d_b_0 := hs44
        go_upto_region 16 with (refine wpList_store_box (cs := [.slice pb Ar.zero.nx.length cb, .slice qb Ar.zero.us.length db, .int .i64 Ar.zero.fr]) rfl _ _ _ rfl (Box.newc (l := ar0) rfl rfl) rfl rfl (size_ar _ _ _) rfl (one_ar _ _ _ _ _ _ _) ?_; intro W44_0 hW44_0)
        have hN : Below w44.heap.size w44 W44_0 := (hW44_0.below _ _ (by omega) ((Below.refl _ w44).alloc (Nat.le_refl _) _))
        have x_b45 : Box W44_0 (w44.heap.size) ([.slice pb Ar.zero.nx.length cb, .slice qb Ar.zero.us.length db, .int .i64 Ar.zero.fr]) := hW44_0.box
        have K_W8_45 : Below W8.heap.size W8 W44_0 := below_thru K_W8_44 hN
        have K_w40_45 : Below w40.heap.size w40 W44_0 := below_thru K_w40_44 hN
        have K_w44_45 : Below w44.heap.size w44 W44_0 := below_thru K_w44_44 hN
        clear K_W8_44 K_w40_44 K_w44_44
        have hB45 : Below w.heap.size w W44_0 := below_thru hB44 hN
        have hs45 := hB45.size
        have x_m45 : Box W44_0 (w35.heap.size) ([.slice pm A16.nx.length cm, .slice qm A16.us.length dm, .int .i64 A16.fr]) := Box.below x_m44 hN
        have x_f45 : Box W44_0 (W35_0.heap.size + 1 + 1) ([.slice (some ⟨W35_0.heap.size, 0, none⟩) 1 1, .slice (some ⟨W35_0.heap.size + 1, 0, none⟩) 1 1, .int .i64 (-1)]) := Box.below x_f44 hN
        have x_o145 : Box W44_0 (w40.heap.size) ([.slice po1 A1.nx.length co1, .slice qo1 A1.us.length do1, .int .i64 A1.fr]) := Box.below x_o144 hN
        clear hB44 hs44 x_m44 x_f44 x_o144
        clear hN hW44_0
        clear K_w44_45
        clear x_b45
        go_wp2_with (refine wpList_load_box9 rfl _ _ rfl x_f45 rfl Try.underlying25 rfl (size_ar _ _ _) ?_)
        refine (GB _ _ (IF.out.below K_W8_45)).mono ?_
        rintro e w46 ⟨vb, rfl, hI, hF, hb⟩
        obtain ⟨xb, yb, rfl, rx, ry⟩ := id hI; obtain ⟨pb, cb, rfl, hrx⟩ := id rx; obtain ⟨qb, db, rfl, hry⟩ := id ry; clear hrx hry rx ry hF
        have K_W8_46 : Below W8.heap.size W8 w46 := below_thru K_W8_45 hb
        have K_w40_46 : Below w40.heap.size w40 w46 := below_thru K_w40_45 hb
        clear K_W8_45 K_w40_45
        have hB46 : Below w.heap.size w w46 := below_thru hB45 hb
        have hs46 := hB46.size
        have x_m46 : Box w46 (w35.heap.size) ([.slice pm A16.nx.length cm, .slice qm A16.us.length dm, .int .i64 A16.fr]) := Box.below x_m45 hb
        have x_f46 : Box w46 (W35_0.heap.size + 1 + 1) ([.slice (some ⟨W35_0.heap.size, 0, none⟩) 1 1, .slice (some ⟨W35_0.heap.size + 1, 0, none⟩) 1 1, .int .i64 (-1)]) := Box.below x_f45 hb
        have x_o146 : Box w46 (w40.heap.size) ([.slice po1 A1.nx.length co1, .slice qo1 A1.us.length do1, .int .i64 A1.fr]) := Box.below x_o145 hb
        clear hB45 hs45 x_m45 x_f45 x_o145
        clear hb
        have K_w46_46 : Below w46.heap.size w46 w46 := Below.refl _ _
        have Ib : Hid (IsA w46 (.agg [.slice pb Ar.zero.nx.length cb, .slice qb Ar.zero.us.length db, .int .i64 Ar.zero.fr].toArray) Ar.zero) := Lib.hid hI; clear hI
        have d_b_m := (x_m46).lt
        have d_b_f := (x_f46).lt
        have d_b_o1 := (x_o146).lt
        have d_b_0 := hs46
        go_upto_region 17 with (refine wpList_store_box (cs := [.slice pb Ar.zero.nx.length cb, .slice qb Ar.zero.us.length db, .int .i64 Ar.zero.fr]) rfl _ _ _ rfl (Box.newc (l := ar0) rfl rfl) rfl rfl (size_ar _ _ _) rfl (one_ar _ _ _ _ _ _ _) ?_; intro W46_0 hW46_0)
        have hN : Below w46.heap.size w46 W46_0 := (hW46_0.below _ _ (by omega) ((Below.refl _ w46).alloc (Nat.le_refl _) _))
        have x_b47 : Box W46_0 (w46.heap.size) ([.slice pb Ar.zero.nx.length cb, .slice qb Ar.zero.us.length db, .int .i64 Ar.zero.fr]) := hW46_0.box
        have K_W8_47 : Below W8.heap.size W8 W46_0 := below_thru K_W8_46 hN
        have K_w40_47 : Below w40.heap.size w40 W46_0 := below_thru K_w40_46 hN
        have K_w46_47 : Below w46.heap.size w46 W46_0 := below_thru K_w46_46 hN
        clear K_W8_46 K_w40_46 K_w46_46
        have hB47 : Below w.heap.size w W46_0 := below_thru hB46 hN
        have hs47 := hB47.size
        have x_m47 : Box W46_0 (w35.heap.size) ([.slice pm A16.nx.length cm, .slice qm A16.us.length dm, .int .i64 A16.fr]) := Box.below x_m46 hN
        have x_f47 : Box W46_0 (W35_0.heap.size + 1 + 1) ([.slice (some ⟨W35_0.heap.size, 0, none⟩) 1 1, .slice (some ⟨W35_0.heap.size + 1, 0, none⟩) 1 1, .int .i64 (-1)]) := Box.below x_f46 hN
        have x_o147 : Box W46_0 (w40.heap.size) ([.slice po1 A1.nx.length co1, .slice qo1 A1.us.length do1, .int .i64 A1.fr]) := Box.below x_o146 hN
        clear hB46 hs46 x_m46 x_f46 x_o146
        clear hN hW46_0
        clear K_w46_47
        clear x_b47
        go_wp2_with (refine wpList_load_box9 rfl _ _ rfl x_f47 rfl Try.underlying25 rfl (size_ar _ _ _) ?_)
        refine (GC _ _ (IF.out.below K_W8_47)).mono ?_
        rintro e w48 ⟨vx, rfl, hI, hF, hb⟩
        obtain ⟨xx, yx, rfl, rx, ry⟩ := id hI; obtain ⟨px, cx, rfl, hrx⟩ := id rx; obtain ⟨qx, dx, rfl, hry⟩ := id ry; clear hrx hry rx ry hF
        have K_W8_48 : Below W8.heap.size W8 w48 := below_thru K_W8_47 hb
        have K_w40_48 : Below w40.heap.size w40 w48 := below_thru K_w40_47 hb
        clear K_W8_47 K_w40_47
        have hB48 : Below w.heap.size w w48 := below_thru hB47 hb
        have hs48 := hB48.size
        have x_m48 : Box w48 (w35.heap.size) ([.slice pm A16.nx.length cm, .slice qm A16.us.length dm, .int .i64 A16.fr]) := Box.below x_m47 hb
        have x_f48 : Box w48 (W35_0.heap.size + 1 + 1) ([.slice (some ⟨W35_0.heap.size, 0, none⟩) 1 1, .slice (some ⟨W35_0.heap.size + 1, 0, none⟩) 1 1, .int .i64 (-1)]) := Box.below x_f47 hb
        have x_o148 : Box w48 (w40.heap.size) ([.slice po1 A1.nx.length co1, .slice qo1 A1.us.length do1, .int .i64 A1.fr]) := Box.below x_o147 hb
        clear hB47 hs47 x_m47 x_f47 x_o147
        clear hb
        have K_w48_48 : Below w48.heap.size w48 w48 := Below.refl _ _
        have Ix : Hid (IsA w48 (.agg [.slice px A1.nx.length cx, .slice qx A1.us.length dx, .int .i64 A1.fr].toArray) A1) := Lib.hid hI; clear hI
        have d_x_m := (x_m48).lt
        have d_x_f := (x_f48).lt
        have d_x_o1 := (x_o148).lt
        have d_x_0 := hs48
        go_upto_region 18 with (refine wpList_store_box (cs := [.slice px A1.nx.length cx, .slice qx A1.us.length dx, .int .i64 A1.fr]) rfl _ _ _ rfl (Box.newc (l := ar0) rfl rfl) rfl rfl (size_ar _ _ _) rfl (one_ar _ _ _ _ _ _ _) ?_; intro W48_0 hW48_0)
        have hN : Below w48.heap.size w48 W48_0 := (hW48_0.below _ _ (by omega) ((Below.refl _ w48).alloc (Nat.le_refl _) _))
        have x_x49 : Box W48_0 (w48.heap.size) ([.slice px A1.nx.length cx, .slice qx A1.us.length dx, .int .i64 A1.fr]) := hW48_0.box
        have K_W8_49 : Below W8.heap.size W8 W48_0 := below_thru K_W8_48 hN
        have K_w40_49 : Below w40.heap.size w40 W48_0 := below_thru K_w40_48 hN
        have K_w48_49 : Below w48.heap.size w48 W48_0 := below_thru K_w48_48 hN
        clear K_W8_48 K_w40_48 K_w48_48
        have hB49 : Below w.heap.size w W48_0 := below_thru hB48 hN
        have hs49 := hB49.size
        have x_m49 : Box W48_0 (w35.heap.size) ([.slice pm A16.nx.length cm, .slice qm A16.us.length dm, .int .i64 A16.fr]) := Box.below x_m48 hN
        have x_f49 : Box W48_0 (W35_0.heap.size + 1 + 1) ([.slice (some ⟨W35_0.heap.size, 0, none⟩) 1 1, .slice (some ⟨W35_0.heap.size + 1, 0, none⟩) 1 1, .int .i64 (-1)]) := Box.below x_f48 hN
        have x_o149 : Box W48_0 (w40.heap.size) ([.slice po1 A1.nx.length co1, .slice qo1 A1.us.length do1, .int .i64 A1.fr]) := Box.below x_o148 hN
        clear hB48 hs48 x_m48 x_f48 x_o148
        clear hN hW48_0
        go_wp2_with (refine wpList_load_box9 rfl _ _ rfl x_f49 rfl Try.underlying25 rfl (size_ar _ _ _) ?_)
        refine (CF _ _ (IF.out.below K_W8_49)).mono ?_
        rintro e w50 ⟨rfl, hb⟩
        have K_W8_50 : Below W8.heap.size W8 w50 := below_thru K_W8_49 hb
        have K_w40_50 : Below w40.heap.size w40 w50 := below_thru K_w40_49 hb
        have K_w48_50 : Below w48.heap.size w48 w50 := below_thru K_w48_49 hb
        clear K_W8_49 K_w40_49 K_w48_49
        have hB50 : Below w.heap.size w w50 := below_thru hB49 hb
        have hs50 := hB50.size
        have x_m50 : Box w50 (w35.heap.size) ([.slice pm A16.nx.length cm, .slice qm A16.us.length dm, .int .i64 A16.fr]) := Box.below x_m49 hb
        have x_f50 : Box w50 (W35_0.heap.size + 1 + 1) ([.slice (some ⟨W35_0.heap.size, 0, none⟩) 1 1, .slice (some ⟨W35_0.heap.size + 1, 0, none⟩) 1 1, .int .i64 (-1)]) := Box.below x_f49 hb
        have x_o150 : Box w50 (w40.heap.size) ([.slice po1 A1.nx.length co1, .slice qo1 A1.us.length do1, .int .i64 A1.fr]) := Box.below x_o149 hb
        have x_x50 : Box w50 (w48.heap.size) ([.slice px A1.nx.length cx, .slice qx A1.us.length dx, .int .i64 A1.fr]) := Box.below x_x49 hb
        clear hB49 hs49 x_m49 x_f49 x_o149 x_x49
        clear hb
        clear K_W8_50
        clear x_f50
        go_wp2_with (refine wpList_build9 rfl 25 _ rfl (us := #[]) (by rfl) (BI _) ?_)
        refine (CZ _ _ (isA_zero _)).mono ?_
        rintro e w51 ⟨rfl, hb⟩
        have K_w40_51 : Below w40.heap.size w40 w51 := below_thru K_w40_50 hb
        have K_w48_51 : Below w48.heap.size w48 w51 := below_thru K_w48_50 hb
        clear K_w40_50 K_w48_50
        have hB51 : Below w.heap.size w w51 := below_thru hB50 hb
        have hs51 := hB51.size
        have x_m51 : Box w51 (w35.heap.size) ([.slice pm A16.nx.length cm, .slice qm A16.us.length dm, .int .i64 A16.fr]) := Box.below x_m50 hb
        have x_o151 : Box w51 (w40.heap.size) ([.slice po1 A1.nx.length co1, .slice qo1 A1.us.length do1, .int .i64 A1.fr]) := Box.below x_o150 hb
        have x_x51 : Box w51 (w48.heap.size) ([.slice px A1.nx.length cx, .slice qx A1.us.length dx, .int .i64 A1.fr]) := Box.below x_x50 hb
        clear hB50 hs50 x_m50 x_o150 x_x50
        clear hb
        have ca := (x_m51).c 0 _ rfl
        have za := (x_m51).lt
        rw [L16.out] at ca
        go_upto_region 20 with fail
        simp only [List.append]
        go_wp2_with fail
        refine (AL _).mono ?_
        rintro e w52 ⟨rfl, hb⟩
        have K_w40_52 : Below w40.heap.size w40 w52 := below_thru K_w40_51 hb
        have K_w48_52 : Below w48.heap.size w48 w52 := below_thru K_w48_51 hb
        clear K_w40_51 K_w48_51
        have hB52 : Below w.heap.size w w52 := below_thru hB51 hb
        have hs52 := hB52.size
        have x_m52 : Box w52 (w35.heap.size) ([.slice pm A16.nx.length cm, .slice qm A16.us.length dm, .int .i64 A16.fr]) := Box.below x_m51 hb
        have x_o152 : Box w52 (w40.heap.size) ([.slice po1 A1.nx.length co1, .slice qo1 A1.us.length do1, .int .i64 A1.fr]) := Box.below x_o151 hb
        have x_x52 : Box w52 (w48.heap.size) ([.slice px A1.nx.length cx, .slice qx A1.us.length dx, .int .i64 A1.fr]) := Box.below x_x51 hb
        clear hB51 hs51 x_m51 x_o151 x_x51
        clear hb
        have cb := (x_m52).c 0 _ rfl
        have zb := (x_m52).lt
        rw [L16.out] at cb
        go_wp2_with (first
          | (refine wpList_load_box9 rfl _ _ rfl x_x52 rfl Try.underlying25 rfl (size_ar _ _ _) ?_)
          | (refine wpList_load_box9 rfl _ _ rfl x_o152 rfl Try.underlying25 rfl (size_ar _ _ _) ?_))
        refine (SM _ _ _ (Ix.out.below K_w48_52) (Io1.out.below K_w40_52)).mono ?_
        rintro e w53 ⟨rfl, hb⟩
        have K_w40_53 : Below w40.heap.size w40 w53 := below_thru K_w40_52 hb
        have K_w48_53 : Below w48.heap.size w48 w53 := below_thru K_w48_52 hb
        clear K_w40_52 K_w48_52
        have hB53 : Below w.heap.size w w53 := below_thru hB52 hb
        have hs53 := hB53.size
        have x_m53 : Box w53 (w35.heap.size) ([.slice pm A16.nx.length cm, .slice qm A16.us.length dm, .int .i64 A16.fr]) := Box.below x_m52 hb
        have x_o153 : Box w53 (w40.heap.size) ([.slice po1 A1.nx.length co1, .slice qo1 A1.us.length do1, .int .i64 A1.fr]) := Box.below x_o152 hb
        have x_x53 : Box w53 (w48.heap.size) ([.slice px A1.nx.length cx, .slice qx A1.us.length dx, .int .i64 A1.fr]) := Box.below x_x52 hb
        clear hB52 hs52 x_m52 x_o152 x_x52
        clear hb
        go_wp2_with fail
        go_returns
        exact ⟨rfl, hB53⟩


end Go.Proofs.Ytepimljjbmoojaa
