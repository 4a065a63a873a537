/-
  LruNames: the orders of its table.
-/
import Derived.Test.YtjhlpkkefdohjaaLrM0
import Derived.Test.YtjhlpkkefdohjaaRegIny
namespace Go.Proofs.Ytjhlpkkefdohjaa
open Go.RowKit

/-- An order as a value. -/
def OrdV (w : World) (v : Value) (O : Od) : Prop := ∃ V : List Value, v = .agg V.toArray ∧ V.length = 4 ∧ (∀ u ∈ V, u.oneCell' = true) ∧ IsO w v O
theorem OrdV.below {w w' : World} {v : Value} {O : Od} (h : OrdV w v O) (hb : Below w.heap.size w w') : OrdV w' v O :=
  let ⟨V, e, h1, h2, h3⟩ := h; ⟨V, e, h1, h2, h3.below hb⟩
structure V4 where
  v : List Value
  len : v.length = 4
  one : ∀ u ∈ v, u.oneCell' = true
def LV4 : Lay V4 := ⟨V4.v, 4, by decide, V4.len, V4.one⟩
def bad15 : List Od := [⟨[], [], 0, 0⟩, ⟨[], [], (-1), (-1)⟩, ⟨nk 17 0, nk 17 0, 0, 0⟩, ⟨[-1, -1], [-1], (-1), (-1)⟩, ⟨[-1, -1], [-1, -1], 0, 0⟩, ⟨[-1, -1], [-1, -1], 2, 2⟩, ⟨[-1, -1], [-1, -1], (-2), (-1)⟩, ⟨[-1, -1], [-1, -1], 0, 1⟩, ⟨[-1, -1], [1, -1], 0, 1⟩, ⟨[-1, 0], [1, 0], 0, 1⟩, ⟨[-1, 0], [-1, -1], 0, 0⟩, ⟨[-1, -1], [-1, 1], 0, 0⟩]
/-- Twelve of them in a row of the call's own. -/
def Bads15 (w : World) (v : Value) : Prop := ∃ (g : Nat) (Vs : List V4), v = .slice (some ⟨g, 0, none⟩) 12 12 ∧ Vs.length = 12 ∧ Box w g (flatR LV4 Vs) ∧ ∀ (k : Nat) (V : V4), Vs[k]? = some V → ∃ O, bad15[k]? = some O ∧ OrdV w (.agg V.v.toArray) O
theorem Bads15.below {w w' : World} {v : Value} (h : Bads15 w v) (hb : Below w.heap.size w w') : Bads15 w' v :=
  let ⟨g, Vs, e, h1, h2, h3⟩ := h; ⟨g, Vs, e, h1, h2.below hb, fun k V hV => let ⟨O, e, h4⟩ := h3 k V hV; ⟨O, e, h4.below hb⟩⟩
theorem isO_agg {w : World} {a b : Value} {xs ys : List Int} {x y : Int} (h1 : IsR LI w a xs) (h2 : IsR LI w b ys) : OrdV w (.agg #[a, b, .int .i64 x, .int .i64 y]) ⟨xs, ys, x, y⟩ := by
  refine ⟨[a, b, .int .i64 x, .int .i64 y], rfl, rfl, ?_, ⟨a, b, rfl, h1, h2⟩⟩
  obtain ⟨_, _, rfl, _⟩ := h1
  obtain ⟨_, _, rfl, _⟩ := h2
  intro u hu
  simp at hu
  rcases hu with rfl | rfl | rfl | rfl <;> rfl
theorem isR_one {w : World} {g c : Nat} {x : Int} (h : w.cell? ⟨g, 0, none⟩ = some (.int .i64 x)) (h1 : 1 ≤ c) (h2 : c ≤ 9223372036854775807) : IsR LI w (.slice (some ⟨g, 0, none⟩) 1 c) [x] := by
  refine ⟨_, c, rfl, h1, h2, fun _ => ⟨g, 0, rfl, fun i y hi j v hv => ?_⟩, fun q => by cases q⟩
  match i, hi with
  | 0, hi =>
    simp at hi
    subst hi
    match j, hv with
    | 0, hv =>
      simp [LI] at hv
      subst hv
      exact h
  | i + 1, hi => simp at hi
theorem no_len {O : Od} (h : O.pv.length < 1 ∨ 16 < O.pv.length ∨ O.nx.length ≠ O.pv.length) : ∀ l, ¬ VO O l := fun l hl => by
  have := hl.pos
  have := hl.most
  have := hl.len
  omega
theorem no0 : ∀ l, ¬ VO ⟨[], [], 0, 0⟩ l := no_len (Or.inl (by decide))
theorem no1 : ∀ l, ¬ VO ⟨[], [], (-1), (-1)⟩ l := no_len (Or.inl (by decide))
theorem no2 : ∀ l, ¬ VO ⟨nk 17 0, nk 17 0, 0, 0⟩ l := no_len (Or.inr (Or.inl (by show 16 < (nk 17 0).length; rw [nk_len]; decide)))
theorem no3 : ∀ l, ¬ VO ⟨[-1, -1], [-1], (-1), (-1)⟩ l := no_len (Or.inr (Or.inr (by decide)))
theorem vo4 : VO ⟨[-1, -1], [-1, -1], 0, 0⟩ [0] := VO.of (n := 2) (l := [0]) (by decide) (by decide) (by decide) (by decide)
theorem no5 : ∀ l, ¬ VO ⟨[-1, -1], [-1, -1], 2, 2⟩ l := fun _ => (RunO.start _).out (by decide) (Or.inr (by decide))
theorem no6 : ∀ l, ¬ VO ⟨[-1, -1], [-1, -1], (-2), (-1)⟩ l := fun _ => (RunO.start _).out (by decide) (Or.inl (by decide))
theorem no7 : ∀ l, ¬ VO ⟨[-1, -1], [-1, -1], 0, 1⟩ l := fun l hl => by
  have e := (show RunO ⟨[-1, -1], [-1, -1], 0, 1⟩ [0] (-1) from (RunO.start _).step (l := []) (i := 0) rfl rfl).fin hl
  subst e
  have := hl.tl
  exact absurd this (by decide)
theorem no8 : ∀ l, ¬ VO ⟨[-1, -1], [1, -1], 0, 1⟩ l := fun _ => (show RunO ⟨[-1, -1], [1, -1], 0, 1⟩ [0] ((1 : Nat) : Int) from (RunO.start _).step (l := []) (i := 0) rfl rfl).diff (y := -1) rfl (by decide)
theorem no9 : ∀ l, ¬ VO ⟨[-1, 0], [1, 0], 0, 1⟩ l := fun _ => ((show RunO ⟨[-1, 0], [1, 0], 0, 1⟩ [0] ((1 : Nat) : Int) from (RunO.start _).step (l := []) (i := 0) rfl rfl).step (i := 1) (x := ((0 : Nat) : Int)) rfl rfl).diff (y := -1) rfl (by decide)
theorem no10 : ∀ l, ¬ VO ⟨[-1, 0], [-1, -1], 0, 0⟩ l := fun l hl => by
  have e := (show RunO ⟨[-1, 0], [-1, -1], 0, 0⟩ [0] (-1) from (RunO.start _).step (l := []) (i := 0) rfl rfl).fin hl
  subst e
  have := hl.pv (i := 1) (by decide)
  exact absurd this (by decide)
theorem no11 : ∀ l, ¬ VO ⟨[-1, -1], [-1, 1], 0, 0⟩ l := fun l hl => by
  have e := (show RunO ⟨[-1, -1], [-1, 1], 0, 0⟩ [0] (-1) from (RunO.start _).step (l := []) (i := 0) rfl rfl).fin hl
  subst e
  have := hl.nx (i := 1) (by decide)
  exact absurd this (by decide)
theorem bad_no {k : Nat} {O : Od} (h : bad15[k]? = some O) (hk : k ≠ 4) : ∀ l, ¬ VO O l := by
  match k, h with
  | 0, h => cases h; exact no0
  | 1, h => cases h; exact no1
  | 2, h => cases h; exact no2
  | 3, h => cases h; exact no3
  | 4, h => exact absurd rfl hk
  | 5, h => cases h; exact no5
  | 6, h => cases h; exact no6
  | 7, h => cases h; exact no7
  | 8, h => cases h; exact no8
  | 9, h => cases h; exact no9
  | 10, h => cases h; exact no10
  | 11, h => cases h; exact no11
  | k + 12, h => simp [bad15] at h
theorem bad_yes {O : Od} (h : bad15[4]? = some O) : VO O [0] := by
  cases h
  exact vo4
def kI15 : List (Option (List Int)) := [none, none, some (nk 17 0), some (nk 17 0), none, some ([-1, -1]), some ([-1, -1]), some ([-1]), none, some ([-1, -1]), some ([-1, -1]), none, some ([-1, -1]), some ([-1, -1]), none, some ([-1, -1]), some ([-1, -1]), none, some ([-1, -1]), some ([-1, -1]), none, some ([-1, -1]), some ([1, -1]), none, some ([-1, 0]), some ([1, 0]), none, some ([-1, 0]), some ([-1, -1]), none, some ([-1, -1]), some ([-1, 1]), none, none, none]
def kT15 : List Bool := [false, false, false, false, false, true, true, false, false, true, true, false, true, true, false, true, true, false, true, true, false, true, false, false, false, false, false, false, true, false, true, false, false, false, false]
def kA15 : List (Option Od) := [some ⟨[], [], 0, 0⟩, some ⟨[], [], (-1), (-1)⟩, none, none, some ⟨nk 17 0, nk 17 0, 0, 0⟩, none, none, none, some ⟨[-1, -1], [-1], (-1), (-1)⟩, none, none, some ⟨[-1, -1], [-1, -1], 0, 0⟩, none, none, some ⟨[-1, -1], [-1, -1], 2, 2⟩, none, none, some ⟨[-1, -1], [-1, -1], (-2), (-1)⟩, none, none, some ⟨[-1, -1], [-1, -1], 0, 1⟩, none, none, some ⟨[-1, -1], [1, -1], 0, 1⟩, none, none, some ⟨[-1, 0], [1, 0], 0, 1⟩, none, none, some ⟨[-1, 0], [-1, -1], 0, 0⟩, none, none, some ⟨[-1, -1], [-1, 1], 0, 0⟩, none, none]
def kR15 : List Bool := [false, false, false, false, false, false, false, false, false, false, false, false, false, false, false, false, false, false, false, false, false, false, false, false, false, false, false, false, false, false, false, false, false, true, true]
/-- What each operation's value is. -/
structure Sp15 (gT : Nat) (j : Nat) (v : Value) (w : World) : Prop where
  i : ∀ xs, kI15.getD j none = some xs → IsR LI w v xs
  t : kT15.getD j false = true → v = .slice (some ⟨gT, 0, none⟩) 2 2
  a : ∀ O, kA15.getD j none = some O → OrdV w v O
  r : kR15.getD j false = true → Bads15 w v
theorem Sp15.below {gT j : Nat} {v : Value} {w w' : World} (h : Sp15 gT j v w) (hb : Below w.heap.size w w') : Sp15 gT j v w' :=
  ⟨fun xs e => (h.i xs e).below hb, h.t, fun O e => (h.a O e).below hb, fun e => (h.r e).below hb⟩
theorem sq_i {gT j : Nat} {v : Value} {w : World} {xs : List Int} (h1 : kI15.getD j none = some xs) (h2 : kT15.getD j false = false) (h3 : kA15.getD j none = none) (h4 : kR15.getD j false = false) (h : IsR LI w v xs) : Sp15 gT j v w :=
  ⟨fun ys e => (by rw [h1] at e; cases e; exact h), fun e => (by rw [h2] at e; cases e), fun O e => (by rw [h3] at e; cases e), fun e => (by rw [h4] at e; cases e)⟩
theorem sq_t {gT j : Nat} {w : World} {xs : List Int} (h1 : kI15.getD j none = some xs) (h3 : kA15.getD j none = none) (h4 : kR15.getD j false = false) (h : IsR LI w (.slice (some ⟨gT, 0, none⟩) 2 2) xs) : Sp15 gT j (.slice (some ⟨gT, 0, none⟩) 2 2) w :=
  ⟨fun ys e => (by rw [h1] at e; cases e; exact h), fun _ => rfl, fun O e => (by rw [h3] at e; cases e), fun e => (by rw [h4] at e; cases e)⟩
theorem sq_a {gT j : Nat} {v : Value} {w : World} {O : Od} (h1 : kI15.getD j none = none) (h2 : kT15.getD j false = false) (h3 : kA15.getD j none = some O) (h4 : kR15.getD j false = false) (h : OrdV w v O) : Sp15 gT j v w :=
  ⟨fun ys e => (by rw [h1] at e; cases e), fun e => (by rw [h2] at e; cases e), fun U e => (by rw [h3] at e; cases e; exact h), fun e => (by rw [h4] at e; cases e)⟩
theorem sq_r {gT j : Nat} {v : Value} {w : World} (h1 : kI15.getD j none = none) (h2 : kT15.getD j false = false) (h3 : kA15.getD j none = none) (h : Bads15 w v) : Sp15 gT j v w :=
  ⟨fun ys e => (by rw [h1] at e; cases e), fun e => (by rw [h2] at e; cases e), fun O e => (by rw [h3] at e; cases e), fun _ => h⟩
theorem sq_next {gT : Nat} {D : Nat → Prop} {us : Nat → Value} {w w' : World} {i : Nat} {v : Value} (hS : ∀ j, D j → Sp15 gT j (us j) w) (hb : Below w.heap.size w w') (h : Sp15 gT i v w') : ∀ j, D j ∨ j = i → Sp15 gT j (if j = i then v else us j) w' := fun j hj => by
  by_cases e : j = i
  · subst e
    rw [if_pos rfl]
    exact h
  · rw [if_neg e]
    exact (hS j (hj.resolve_right e)).below hb
theorem make_l17 (w : World) : (Instr.makeSlice 22 (.int .i64 17) (.int .i64 17)).run Try.prog w = .ok (.slice (some ⟨w.heap.size, 0, none⟩) 17 17) (w.alloc (.cells ((nk 17 0).map (Value.int .i64)).toArray 3)) := make_ints 17 (by decide) w
theorem info_od : (Try.prog.info? 24).map (fun i => (i.zero, i.size, i.bytes)) = some (some (.agg od0.toArray), 4, 64) := by kernel_rfl
theorem isR_newL {w : World} (xs : List Int) (n : Nat) (c : Array Value) (hc : c = (xs.map (Value.int .i64)).toArray) (hn : n = xs.length) (hl : xs.length ≤ 1000) : IsR LI (w.alloc (.cells c 3)) (.slice (some ⟨w.heap.size, 0, none⟩) n n) xs := IsR.built xs rfl (by rw [hc, flatI]) hn hn hl

theorem n0_15 : NwO 0 Od.zero 2 := Or.inl ⟨rfl, Or.inl (by decide), rfl⟩
theorem n17_15 : NwO 17 Od.zero 2 := Or.inl ⟨rfl, Or.inr (by decide), rfl⟩
theorem n16_15 : NwO 16 (ofL 16 []) 0 := Or.inr ⟨rfl, 16, rfl, by decide, by decide, rfl⟩
theorem v16_15 : VO (ofL 16 []) [] := vo_zero (by decide) (by decide)
theorem ta16_15 : TcO (ofL 16 []) 16 Od.zero 2 := Or.inr ⟨[], v16_15, Or.inl ⟨rfl, Or.inr (by rw [ofL_pv]; decide), rfl⟩⟩
theorem tb16_15 : TcO (ofL 16 []) (-1) Od.zero 2 := Or.inr ⟨[], v16_15, Or.inl ⟨rfl, Or.inl (by decide), rfl⟩⟩
theorem ra16_15 : RmO (ofL 16 []) 16 Od.zero 2 := Or.inr ⟨[], v16_15, Or.inl ⟨rfl, Or.inr (by rw [ofL_pv]; decide), rfl⟩⟩
theorem rb16_15 : RmO (ofL 16 []) 0 Od.zero 6 := Or.inr ⟨[], v16_15, Or.inr ⟨0, rfl, by rw [ofL_pv]; decide, Or.inl ⟨rfl, by simp, rfl⟩⟩⟩
theorem la16_15 : LaO (ofL 16 []) 0 6 := Or.inr ⟨[], v16_15, Or.inl ⟨rfl, rfl, rfl⟩⟩
theorem lb16_15 : LiO (ofL 16 []) [] 0 := Or.inr ⟨rfl, v16_15⟩
theorem tz_15 : TcO Od.zero 99 Od.zero 8 := Or.inl ⟨rfl, no_len (Or.inl (by decide)), rfl⟩
theorem lz_15 : LiO Od.zero [] 8 := Or.inl ⟨rfl, no_len (Or.inl (by decide)), rfl⟩


end Go.Proofs.Ytjhlpkkefdohjaa
