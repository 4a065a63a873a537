/-
  The reference of layer 12, walked: Great, Check.
-/
import Derived.Test.YtpccahdbienjeaaDoorRIdA
import Derived.Test.YtpccahdbienjeaaDoorGXR
namespace Go.Proofs.YtpccahdbienjeaaDoor
open Go.RowKit

/-- What Great answers. -/
def GrtD (n : Nat) : Prop := (20 < n ∧ n < 100) ∨ 150 < n
theorem bool_eq12 {p : Prop} {b c : Bool} (h1 : b = true ↔ p) (h2 : c = true ↔ p) : b = c := by
  by_cases h : p
  · rw [h1.2 h, h2.2 h]
  · cases b <;> cases c <;> simp_all
set_option maxRecDepth 100000 in
set_option maxHeartbeats 6400000 in
theorem rgreat_a {v : Value} {ts : List Tk} {cs : List Cmd} {n : Nat} (w : World) (h1 : IsD w v ts cs) (hn : ts.length + cs.length = n) (hl : n ≤ 1000000000000000) (h : n ≤ 20) : Calls Tryd.prog 11 #[v] w fun e w' => e = .returned (.bool false) ∧ Below w.heap.size w w' := by
  obtain ⟨v1, v2, rfl, g1, g2⟩ := id h1
  obtain ⟨a1, c1, rfl, hr1⟩ := id g1; obtain ⟨a2, c2, rfl, hr2⟩ := id g2
  have m1 := hr1.most; have r1 := hr1.room; have m2 := hr2.most; have r2 := hr2.room; have H1 := Lib.hid g1; have H2 := Lib.hid g2
  clear hr1 hr2 g1 g2 h1
  have W1 : IntKind.i64.wrap ((ts.length : Int) + (cs.length : Int)) = (n : Int) := by rw [IntKind.wrap_i64]; omega
  have d0 : decide (20 < (n : Int)) = false := decide_eq_false (by omega)
  have d1 : decide (150 < (n : Int)) = false := decide_eq_false (by omega)
  clear H1 H2 hl h hn
  go_enter Tryd.func11, Tryd.ntmps11
  go_upto_region 1 with fail
  refine F_gen (F := fun W => Code.wp _ _ _ _ W) (J := fun W => Box W (w.heap.size) ([.slice a1 ts.length c1, .slice a2 cs.length c2]) ∧ Below w.heap.size w W) (And.intro (Box.newc rfl rfl) (by go_grown)) ?_
  intro w0 ⟨e_d, hB0⟩
  have hs0 := hB0.size
  have x_d0 := e_d; clear e_d
  have ca := (x_d0).c 0 _ rfl
  have za := (x_d0).lt
  have cb := (x_d0).c 1 _ rfl
  have zb := (x_d0).lt
  go_wp2_with fail
  go_returns
  exact ⟨rfl, hB0⟩

set_option maxRecDepth 100000 in
set_option maxHeartbeats 6400000 in
theorem rgreat_b {v : Value} {ts : List Tk} {cs : List Cmd} {n : Nat} (w : World) (h1 : IsD w v ts cs) (hn : ts.length + cs.length = n) (hl : n ≤ 1000000000000000) (h : 20 < n ∧ n < 100) : Calls Tryd.prog 11 #[v] w fun e w' => e = .returned (.bool true) ∧ Below w.heap.size w w' := by
  obtain ⟨v1, v2, rfl, g1, g2⟩ := id h1
  obtain ⟨a1, c1, rfl, hr1⟩ := id g1; obtain ⟨a2, c2, rfl, hr2⟩ := id g2
  have m1 := hr1.most; have r1 := hr1.room; have m2 := hr2.most; have r2 := hr2.room; have H1 := Lib.hid g1; have H2 := Lib.hid g2
  clear hr1 hr2 g1 g2 h1
  have W1 : IntKind.i64.wrap ((ts.length : Int) + (cs.length : Int)) = (n : Int) := by rw [IntKind.wrap_i64]; omega
  have d0 : decide (20 < (n : Int)) = true := decide_eq_true (by omega)
  have d1 : decide ((n : Int) < 100) = true := decide_eq_true (by omega)
  clear H1 H2 hl h hn
  go_enter Tryd.func11, Tryd.ntmps11
  go_upto_region 1 with fail
  refine F_gen (F := fun W => Code.wp _ _ _ _ W) (J := fun W => Box W (w.heap.size) ([.slice a1 ts.length c1, .slice a2 cs.length c2]) ∧ Below w.heap.size w W) (And.intro (Box.newc rfl rfl) (by go_grown)) ?_
  intro w0 ⟨e_d, hB0⟩
  have hs0 := hB0.size
  have x_d0 := e_d; clear e_d
  have ca := (x_d0).c 0 _ rfl
  have za := (x_d0).lt
  have cb := (x_d0).c 1 _ rfl
  have zb := (x_d0).lt
  go_wp2_with fail
  go_returns
  exact ⟨rfl, hB0⟩

set_option maxRecDepth 100000 in
set_option maxHeartbeats 6400000 in
theorem rgreat_c {v : Value} {ts : List Tk} {cs : List Cmd} {n : Nat} (w : World) (h1 : IsD w v ts cs) (hn : ts.length + cs.length = n) (hl : n ≤ 1000000000000000) (h : 100 ≤ n ∧ n ≤ 150) : Calls Tryd.prog 11 #[v] w fun e w' => e = .returned (.bool false) ∧ Below w.heap.size w w' := by
  obtain ⟨v1, v2, rfl, g1, g2⟩ := id h1
  obtain ⟨a1, c1, rfl, hr1⟩ := id g1; obtain ⟨a2, c2, rfl, hr2⟩ := id g2
  have m1 := hr1.most; have r1 := hr1.room; have m2 := hr2.most; have r2 := hr2.room; have H1 := Lib.hid g1; have H2 := Lib.hid g2
  clear hr1 hr2 g1 g2 h1
  have W1 : IntKind.i64.wrap ((ts.length : Int) + (cs.length : Int)) = (n : Int) := by rw [IntKind.wrap_i64]; omega
  have d0 : decide (20 < (n : Int)) = true := decide_eq_true (by omega)
  have d1 : decide ((n : Int) < 100) = false := decide_eq_false (by omega)
  have d2 : decide (150 < (n : Int)) = false := decide_eq_false (by omega)
  clear H1 H2 hl h hn
  go_enter Tryd.func11, Tryd.ntmps11
  go_upto_region 1 with fail
  refine F_gen (F := fun W => Code.wp _ _ _ _ W) (J := fun W => Box W (w.heap.size) ([.slice a1 ts.length c1, .slice a2 cs.length c2]) ∧ Below w.heap.size w W) (And.intro (Box.newc rfl rfl) (by go_grown)) ?_
  intro w0 ⟨e_d, hB0⟩
  have hs0 := hB0.size
  have x_d0 := e_d; clear e_d
  have ca := (x_d0).c 0 _ rfl
  have za := (x_d0).lt
  have cb := (x_d0).c 1 _ rfl
  have zb := (x_d0).lt
  go_wp2_with fail
  go_returns
  exact ⟨rfl, hB0⟩

set_option maxRecDepth 100000 in
set_option maxHeartbeats 6400000 in
theorem rgreat_d {v : Value} {ts : List Tk} {cs : List Cmd} {n : Nat} (w : World) (h1 : IsD w v ts cs) (hn : ts.length + cs.length = n) (hl : n ≤ 1000000000000000) (h : 150 < n) : Calls Tryd.prog 11 #[v] w fun e w' => e = .returned (.bool true) ∧ Below w.heap.size w w' := by
  obtain ⟨v1, v2, rfl, g1, g2⟩ := id h1
  obtain ⟨a1, c1, rfl, hr1⟩ := id g1; obtain ⟨a2, c2, rfl, hr2⟩ := id g2
  have m1 := hr1.most; have r1 := hr1.room; have m2 := hr2.most; have r2 := hr2.room; have H1 := Lib.hid g1; have H2 := Lib.hid g2
  clear hr1 hr2 g1 g2 h1
  have W1 : IntKind.i64.wrap ((ts.length : Int) + (cs.length : Int)) = (n : Int) := by rw [IntKind.wrap_i64]; omega
  have d0 : decide (20 < (n : Int)) = true := decide_eq_true (by omega)
  have d1 : decide ((n : Int) < 100) = false := decide_eq_false (by omega)
  have d2 : decide (150 < (n : Int)) = true := decide_eq_true (by omega)
  clear H1 H2 hl h hn
  go_enter Tryd.func11, Tryd.ntmps11
  go_upto_region 1 with fail
  refine F_gen (F := fun W => Code.wp _ _ _ _ W) (J := fun W => Box W (w.heap.size) ([.slice a1 ts.length c1, .slice a2 cs.length c2]) ∧ Below w.heap.size w W) (And.intro (Box.newc rfl rfl) (by go_grown)) ?_
  intro w0 ⟨e_d, hB0⟩
  have hs0 := hB0.size
  have x_d0 := e_d; clear e_d
  have ca := (x_d0).c 0 _ rfl
  have za := (x_d0).lt
  have cb := (x_d0).c 1 _ rfl
  have zb := (x_d0).lt
  go_wp2_with fail
  go_returns
  exact ⟨rfl, hB0⟩

theorem rgreat_is {v : Value} {ts : List Tk} {cs : List Cmd} {b : Bool} (w : World) (h1 : IsD w v ts cs) (hl : ts.length + cs.length ≤ 1000000000000000) (hb : b = true ↔ GrtD (ts.length + cs.length)) : Calls Tryd.prog 11 #[v] w fun e w' => e = .returned (.bool b) ∧ Below w.heap.size w w' := by
  obtain ⟨n, hn⟩ : ∃ n, ts.length + cs.length = n := ⟨_, rfl⟩
  rw [hn] at hb hl
  by_cases q1 : n ≤ 20
  · rw [bool_eq12 hb (c := false) ⟨fun h => (Bool.false_ne_true h).elim, fun h => by unfold GrtD at h; omega⟩]
    exact rgreat_a w h1 hn hl q1
  · by_cases q2 : n < 100
    · rw [hb.2 (Or.inl ⟨by omega, q2⟩)]
      exact rgreat_b w h1 hn hl ⟨by omega, q2⟩
    · by_cases q3 : n ≤ 150
      · rw [bool_eq12 hb (c := false) ⟨fun h => (Bool.false_ne_true h).elim, fun h => by unfold GrtD at h; omega⟩]
        exact rgreat_c w h1 hn hl ⟨by omega, q3⟩
      · rw [hb.2 (Or.inr (by omega))]
        exact rgreat_d w h1 hn hl (by omega)

set_option maxRecDepth 100000 in
set_option maxHeartbeats 6400000 in
theorem rchk12_is {v : Value} {ts : List Tk} {cs : List Cmd} {q : Int} (w : World) (h1 : IsD w v ts cs) (hl : ts.length + cs.length ≤ 200) (hq : ChkD ts cs q) : Calls Tryd.prog 12 #[v] w fun e w' => e = .returned (.int .i64 q) ∧ Below w.heap.size w w' := by
  obtain ⟨v1, v2, rfl, g1, g2⟩ := id h1
  obtain ⟨a1, c1, rfl, hr1⟩ := id g1; obtain ⟨a2, c2, rfl, hr2⟩ := id g2
  have m1 := hr1.most; have r1 := hr1.room; have m2 := hr2.most; have r2 := hr2.room; have H1 := Lib.hid g1; have H2 := Lib.hid g2
  clear hr1 hr2 g1 g2 h1
  obtain ⟨n, hn⟩ : ∃ n, ts.length + cs.length = n := ⟨_, rfl⟩
  have W1 : IntKind.i64.wrap ((ts.length : Int) + (cs.length : Int)) = (n : Int) := by rw [IntKind.wrap_i64]; omega
  have HQ := Lib.hid hq; clear hq
  have HL := Lib.hid hl; clear hl
  by_cases hm : 100 < ts.length + cs.length
  · skip
    have HX := Lib.hid (show (4 : Int) = q from ChkD.uniq (Or.inl ⟨rfl, hm⟩) HQ.out)
    have d1 : decide ((100 : Int) < (n : Int)) = true := decide_eq_true (by omega)
    clear hm hn H1 H2
    go_enter Tryd.func12, Tryd.ntmps12
    go_upto_region 1 with fail
    refine F_gen (F := fun W => Code.wp _ _ _ _ W) (J := fun W => Box W (w.heap.size) ([.slice a1 ts.length c1, .slice a2 cs.length c2]) ∧ Below w.heap.size w W) (And.intro (Box.newc rfl rfl) (by go_grown)) ?_
    intro w0 ⟨e_d, hB0⟩
    have hs0 := hB0.size
    have x_d0 := e_d; clear e_d
    have ca := (x_d0).c 0 _ rfl
    have za := (x_d0).lt
    have cb := (x_d0).c 1 _ rfl
    have zb := (x_d0).lt
    go_wp2_with fail
    go_returns
    exact ⟨ret_i12 HX.out, hB0⟩
  · skip
    have d1 : decide ((100 : Int) < (n : Int)) = false := decide_eq_false (by omega)
    have HM := Lib.hid (show ts.length + cs.length ≤ 100 by omega)
    clear hm hn
    go_enter Tryd.func12, Tryd.ntmps12
    go_upto_region 1 with fail
    refine F_gen (F := fun W => Code.wp _ _ _ _ W) (J := fun W => Box W (w.heap.size) ([.slice a1 ts.length c1, .slice a2 cs.length c2]) ∧ Below w.heap.size w W) (And.intro (Box.newc rfl rfl) (by go_grown)) ?_
    intro w0 ⟨e_d, hB0⟩
    have hs0 := hB0.size
    have x_d0 := e_d; clear e_d
    have ca := (x_d0).c 0 _ rfl
    have za := (x_d0).lt
    have cb := (x_d0).c 1 _ rfl
    have zb := (x_d0).lt
    go_wp2_with fail
    clear d1 W1 ca za cb zb
    go_loopw [3, 4] (fun p3 p4 wr => ∃ (k : Nat) (b : Bool), k ≤ ts.length ∧ p4 = .int .i64 k ∧ p3 = .bool b ∧ Hid (b = true ↔ ¬ Dst Tk.bare ts k) ∧ Hid (∀ (m : Nat) (y : Tk), m < k → ts[m]? = some y → y.k.t < 16) ∧ Box wr (w.heap.size) [.slice a1 ts.length c1, .slice a2 cs.length c2] ∧ Below w.heap.size w wr) (fun _ p4 _ => ts.length - (intOf p4).toNat)
    case atStart => exact ⟨0, false, Nat.zero_le _, rfl, rfl, Lib.hid ⟨fun h => (Bool.false_ne_true h).elim, fun h => absurd (Dst.zero _ _) h⟩, Lib.hid (fun _ _ h => absurd h (Nat.not_lt_zero _)), x_d0, hB0⟩
    case round =>
      obtain ⟨k, b, hk, rfl, rfl, HI, HG, x_d, hB⟩ := hrel
      have hs := hB.size
      have ca := x_d.c 0 _ rfl; have za := x_d.lt
      by_cases hlt : k < ts.length
      case pos =>
        obtain ⟨b1, o1, rfl, hR1⟩ := H1.out.get 36 rfl (List.getElem?_eq_getElem hlt)
        have x1 := range_below hR1 hB
        obtain ⟨i, hi⟩ := Fnd.ex (fun u => u.bare = ts[k].bare) ts
        have HD := Lib.hid (Dst.succ (f := Tk.bare) hlt hi); have HF := Lib.hid hi
        have HK := Lib.hid (show ∀ (p : Tk → Prop), p ts[k] → (∀ (m : Nat) (y : Tk), m < k → ts[m]? = some y → p y) → ∀ (m : Nat) (y : Tk), m < k + 1 → ts[m]? = some y → p y from fun p h0 h m y hm hy => by
          rcases Nat.lt_or_ge m k with g | g
          · exact h m y g hy
          · obtain rfl : m = k := by omega
            rw [List.getElem?_eq_getElem hlt] at hy
            cases hy
            exact h0)
        have HE := Lib.hid (List.getElem_mem hlt)
        obtain ⟨f, hf⟩ : ∃ f, ts[k] = f := ⟨_, rfl⟩
        rw [hf] at x1 HF HK HE
        clear hi hf hR1
        have AT := fun (W : World) (v : Value) (h : IsR LT W v ts) => rtat_is f W h HF.out; have SF := Lib.hid (size_tk f)
        have cc : wr.cell? ⟨b1, o1 + k * 36, none⟩ = some (.int .u32 f.k.t) := x1 0 _ rfl; have zc := lt_of_cell cc
        obtain ⟨VF, hVF⟩ : ∃ X, f.v = X := ⟨_, rfl⟩
        rw [show LT.f f = VF from hVF] at x1; rw [hVF] at AT SF
        clear hVF
        have i0 : (0 : Int) ≤ (k : Int) := (by omega); have i1 : (k : Int) < (ts.length : Int) := (by omega)
        by_cases hg : f.k.t < 16
        case neg =>
          have HX := Lib.hid (show (8 : Int) = q from ChkD.uniq (Or.inr (Or.inl ⟨rfl, HM.out, fun h => hg (h.1 f HE.out)⟩)) HQ.out)
          have d2 : decide (16 ≤ f.k.t) = true := decide_eq_true (by omega)
          clear HD HF HK HE AT hg x1
          go_wp2_with fail
          go_returns
          exact ⟨ret_i12 HX.out, hB⟩
        case pos =>
          have HG2 := Lib.hid (HK.out (fun y => y.k.t < 16) hg HG.out)
          have d2 : decide (16 ≤ f.k.t) = false := decide_eq_false (by omega)
          clear hg HG HK HE
          go_upto_region 9 with fail
          clear d2 cc zc
          cases b with
          | true =>
            have HN : Hid (true = true ↔ ¬ Dst Tk.bare ts (k + 1)) := Lib.hid ⟨fun _ => fun h => HI.out.1 rfl (HD.out.1 h).1, fun _ => rfl⟩
            clear HI HD HF
            refine wp_region_held_drew (S := fun w' => w'.rangeAt b1 (o1 + k * 36) VF ∧ Box w' w.heap.size [.slice (some ⟨b1, o1, none⟩) ts.length c1, .slice a2 cs.length c2]) (by kernel_rfl) ⟨range_below x1 ((Below.refl _ _).drew), x_d.drew⟩ (fun _ => ?_)
            refine F_drew (F := fun W => wpAnyH _ _ _ _ _ _ _ _ W) ?_
            intro W0 hb0
            have hx0 := And.intro (range_below x1 hb0) (Box.below x_d hb0); have hB0 := below_thru hB hb0
            clear x1 x_d hB hb0 hs ca za
            refine takeH 0 28 (v := ?vst0_1) rfl (by rfl) (by kernel_rfl) (by kernel_rfl) (by kernel_rfl) (fun _ _ _ h => h) (Or.inl ⟨by rfl, ?_⟩) (hx0) ?_
            rotate_left
            · intro wq hSq
              go_simp
              exact rfl
            try simp only [Act.put, List.setIfInBounds_toArray, List.set_cons_zero, List.set_cons_succ]
            refine takeH 1 29 (v := ?vst1_2) rfl (by rfl) (by kernel_rfl) (by kernel_rfl) (by kernel_rfl) (fun _ _ _ h => h) (Or.inl ⟨by rfl, ?_⟩) (hx0) ?_
            rotate_left
            · intro wq hSq
              go_simp
              exact rfl
            try simp only [Act.put, List.setIfInBounds_toArray, List.set_cons_zero, List.set_cons_succ]
            refine takeH 2 30 (v := undef) rfl (by rfl) (by kernel_rfl) (by kernel_rfl) (by kernel_rfl) (fun _ _ _ h => h) (Or.inr ⟨by rfl, rfl⟩) (hx0) ?_
            try simp only [Act.put, List.setIfInBounds_toArray, List.set_cons_zero, List.set_cons_succ]
            refine takeH 3 31 (v := undef) rfl (by rfl) (by kernel_rfl) (by kernel_rfl) (by kernel_rfl) (fun _ _ _ h => h) (Or.inr ⟨by rfl, rfl⟩) (hx0) ?_
            try simp only [Act.put, List.setIfInBounds_toArray, List.set_cons_zero, List.set_cons_succ]
            refine takeH 4 32 (v := undef) rfl (by rfl) (by kernel_rfl) (by kernel_rfl) (by kernel_rfl) (fun _ _ _ h => h) (Or.inr ⟨by rfl, rfl⟩) (hx0) ?_
            try simp only [Act.put, List.setIfInBounds_toArray, List.set_cons_zero, List.set_cons_succ]
            refine takeH 5 33 (v := undef) rfl (by rfl) (by kernel_rfl) (by kernel_rfl) (by kernel_rfl) (fun _ _ _ h => h) (Or.inr ⟨by rfl, rfl⟩) (hx0) ?_
            try simp only [Act.put, List.setIfInBounds_toArray, List.set_cons_zero, List.set_cons_succ]
            refine takeH 6 34 (v := undef) rfl (by rfl) (by kernel_rfl) (by kernel_rfl) (by kernel_rfl) (fun _ _ _ h => h) (Or.inr ⟨by rfl, rfl⟩) (hx0) ?_
            try simp only [Act.put, List.setIfInBounds_toArray, List.set_cons_zero, List.set_cons_succ]
            refine takeH 7 35 (v := undef) rfl (by rfl) (by kernel_rfl) (by kernel_rfl) (by kernel_rfl) (fun _ _ _ h => h) (Or.inr ⟨by rfl, rfl⟩) (hx0) ?_
            try simp only [Act.put, List.setIfInBounds_toArray, List.set_cons_zero, List.set_cons_succ]
            refine takeH 8 36 (v := undef) rfl (by rfl) (by kernel_rfl) (by kernel_rfl) (by kernel_rfl) (fun _ _ _ h => h) (Or.inr ⟨by rfl, rfl⟩) (hx0) ?_
            try simp only [Act.put, List.setIfInBounds_toArray, List.set_cons_zero, List.set_cons_succ]
            refine takeH 9 37 (v := undef) rfl (by rfl) (by kernel_rfl) (by kernel_rfl) (by kernel_rfl) (fun _ _ _ h => h) (Or.inr ⟨by rfl, rfl⟩) (hx0) ?_
            try simp only [Act.put, List.setIfInBounds_toArray, List.set_cons_zero, List.set_cons_succ]
            refine takeH 10 38 (v := undef) rfl (by rfl) (by kernel_rfl) (by kernel_rfl) (by kernel_rfl) (fun _ _ _ h => h) (Or.inr ⟨by rfl, rfl⟩) (hx0) ?_
            try simp only [Act.put, List.setIfInBounds_toArray, List.set_cons_zero, List.set_cons_succ]
            refine takeH 11 39 (v := undef) rfl (by rfl) (by kernel_rfl) (by kernel_rfl) (by kernel_rfl) (fun _ _ _ h => h) (Or.inr ⟨by rfl, rfl⟩) (hx0) ?_
            try simp only [Act.put, List.setIfInBounds_toArray, List.set_cons_zero, List.set_cons_succ]
            refine takeH 12 40 (v := ?vst12_3) rfl (by rfl) (by kernel_rfl) (by kernel_rfl) (by kernel_rfl) (fun _ _ _ h => h) (Or.inl ⟨by rfl, ?_⟩) (hx0) ?_
            rotate_left
            · intro wq hSq
              go_simp
              exact rfl
            try simp only [Act.put, List.setIfInBounds_toArray, List.set_cons_zero, List.set_cons_succ]
            refine takeH 13 3 (v := ?vst13_4) rfl (by rfl) (by kernel_rfl) (by kernel_rfl) (by kernel_rfl) (fun _ _ _ h => h) (Or.inl ⟨by rfl, ?_⟩) (hx0) ?_
            rotate_left
            · intro wq hSq
              go_simp
              exact rfl
            try simp only [Act.put, List.setIfInBounds_toArray, List.set_cons_zero, List.set_cons_succ]
            refine wpAnyH_done (by kernel_rfl) ?_ _
            go_wp2_with fail
            go_roundw
            case rel => exact ⟨k + 1, true, by omega, by go_num, rfl, HN, HG2, hx0.2, hB0⟩
            case measure => simp [intOf]; omega
          | false =>
            have HN : Hid (decide (i < (k : Int)) = true ↔ ¬ Dst Tk.bare ts (k + 1)) := Lib.hid ⟨fun h g => (Int.not_lt.2 (HD.out.1 g).2) (of_decide_eq_true h), fun h => decide_eq_true (Classical.byContradiction fun g => h (HD.out.2 ⟨Classical.byContradiction fun e => Bool.false_ne_true (HI.out.2 e), Int.not_lt.1 g⟩))⟩
            clear HI HD HF
            refine wp_region_held_drew (S := fun w' => w'.rangeAt b1 (o1 + k * 36) VF ∧ Box w' w.heap.size [.slice (some ⟨b1, o1, none⟩) ts.length c1, .slice a2 cs.length c2]) (by kernel_rfl) ⟨range_below x1 ((Below.refl _ _).drew), x_d.drew⟩ (fun _ => ?_)
            refine F_drew (F := fun W => wpAnyH _ _ _ _ _ _ _ _ W) ?_
            intro W0 hb0
            have hx0 := And.intro (range_below x1 hb0) (Box.below x_d hb0); have hB0 := below_thru hB hb0
            clear x1 x_d hB hb0 hs ca za
            refine takeH 0 28 (v := ?vsf0_1) rfl (by rfl) (by kernel_rfl) (by kernel_rfl) (by kernel_rfl) (fun _ _ _ h => h) (Or.inl ⟨by rfl, ?_⟩) (hx0) ?_
            rotate_left
            · intro wq hSq
              go_simp
              exact rfl
            try simp only [Act.put, List.setIfInBounds_toArray, List.set_cons_zero, List.set_cons_succ]
            refine takeH 1 29 (v := ?vsf1_2) rfl (by rfl) (by kernel_rfl) (by kernel_rfl) (by kernel_rfl) (fun _ _ _ h => h) (Or.inl ⟨by rfl, ?_⟩) (hx0) ?_
            rotate_left
            · intro wq hSq
              go_simp
              exact rfl
            try simp only [Act.put, List.setIfInBounds_toArray, List.set_cons_zero, List.set_cons_succ]
            refine takeH 2 30 (v := ?vsf2_3) rfl (by rfl) (by kernel_rfl) (by kernel_rfl) (by kernel_rfl) (fun _ _ _ h => h) (Or.inl ⟨by rfl, ?_⟩) (hx0) ?_
            rotate_left
            · intro wq hSq
              go_simp
              exact rfl
            try simp only [Act.put, List.setIfInBounds_toArray, List.set_cons_zero, List.set_cons_succ]
            refine takeH 3 31 (v := ?vsf3_4) rfl (by rfl) (by kernel_rfl) (by kernel_rfl) (by kernel_rfl) (fun _ _ _ h => h) (Or.inl ⟨by rfl, ?_⟩) (hx0) ?_
            rotate_left
            · intro wq hSq
              have cq := hSq.2.c 0 _ rfl
              have zq := lt_of_cell cq
              go_simp
              exact rfl
            try simp only [Act.put, List.setIfInBounds_toArray, List.set_cons_zero, List.set_cons_succ]
            refine takeH 4 32 (v := ?vsf4_5) rfl (by rfl) (by kernel_rfl) (by kernel_rfl) (by kernel_rfl) (fun _ _ _ h => h) (Or.inl ⟨by rfl, ?_⟩) (hx0) ?_
            rotate_left
            · intro wq hSq
              go_simp
              exact rfl
            try simp only [Act.put, List.setIfInBounds_toArray, List.set_cons_zero, List.set_cons_succ]
            refine takeH 5 33 (v := ?vsf5_6) rfl (by rfl) (by kernel_rfl) (by kernel_rfl) (by kernel_rfl) (fun _ _ _ h => h) (Or.inl ⟨by rfl, ?_⟩) (hx0) ?_
            rotate_left
            · intro wq hSq
              have cq := hSq.2.c 0 _ rfl
              have zq := lt_of_cell cq
              go_simp
              exact rfl
            try simp only [Act.put, List.setIfInBounds_toArray, List.set_cons_zero, List.set_cons_succ]
            refine takeH 6 34 (v := ?vsf6_7) rfl (by rfl) (by kernel_rfl) (by kernel_rfl) (by kernel_rfl) (fun _ _ _ h => h) (Or.inl ⟨by rfl, ?_⟩) (hx0) ?_
            rotate_left
            · intro wq hSq
              go_simp
              exact rfl
            try simp only [Act.put, List.setIfInBounds_toArray, List.set_cons_zero, List.set_cons_succ]
            refine takeH 7 35 (v := ?vsf7_8) rfl (by rfl) (by kernel_rfl) (by kernel_rfl) (by kernel_rfl) (fun _ _ _ h => h) (Or.inl ⟨by rfl, ?_⟩) (hx0) ?_
            rotate_left
            · intro wq hSq
              go_simp
              exact rfl
            try simp only [Act.put, List.setIfInBounds_toArray, List.set_cons_zero, List.set_cons_succ]
            refine takeH 10 38 (v := ?vsf10_9) rfl (by rfl) (by kernel_rfl) (by kernel_rfl) (by kernel_rfl) (fun _ _ _ h => h) (Or.inl ⟨by rfl, ?_⟩) (hx0) ?_
            rotate_left
            · intro wq hSq
              go_simp
              exact rfl
            try simp only [Act.put, List.setIfInBounds_toArray, List.set_cons_zero, List.set_cons_succ]
            refine takeH 8 36 (v := .agg VF.toArray) rfl (by rfl) (by kernel_rfl) (by kernel_rfl) (by kernel_rfl) (fun _ _ _ h => h) (yieldsIf_load_mid (by rfl) _ _ rfl _ _ rfl VF _ (fun wq hq => hq.1) Tryd.underlying31 rfl SF.out) (hx0) ?_
            try simp only [Act.put, List.setIfInBounds_toArray, List.set_cons_zero, List.set_cons_succ]
            refine wpAnyH_ready (rs := [9]) (by kernel_rfl) (by simp) (AllReadyH.cons rfl (fun K hK => ?_) AllReadyH.nil)
            go_simp
            refine (AT _ _ (H1.out.below hB0)).mono ?_
            rintro e W10 ⟨rfl, hb10⟩
            have hx10 := And.intro (range_below hx0.1 hb10) (Box.below hx0.2 hb10); have hB10 := below_thru hB0 hb10
            clear hx0 hB0 hb10
            refine hK.out _ _ hx10 (fun _ => ?_); clear hK
            refine takeH 11 39 (v := ?vsf11_11) rfl (by rfl) (by kernel_rfl) (by kernel_rfl) (by kernel_rfl) (fun _ _ _ h => h) (Or.inl ⟨by rfl, ?_⟩) (hx10) ?_
            rotate_left
            · intro wq hSq
              go_simp
              exact rfl
            try simp only [Act.put, List.setIfInBounds_toArray, List.set_cons_zero, List.set_cons_succ]
            refine takeH 12 40 (v := ?vsf12_12) rfl (by rfl) (by kernel_rfl) (by kernel_rfl) (by kernel_rfl) (fun _ _ _ h => h) (Or.inl ⟨by rfl, ?_⟩) (hx10) ?_
            rotate_left
            · intro wq hSq
              go_simp
              exact rfl
            try simp only [Act.put, List.setIfInBounds_toArray, List.set_cons_zero, List.set_cons_succ]
            refine takeH 13 3 (v := ?vsf13_13) rfl (by rfl) (by kernel_rfl) (by kernel_rfl) (by kernel_rfl) (fun _ _ _ h => h) (Or.inl ⟨by rfl, ?_⟩) (hx10) ?_
            rotate_left
            · intro wq hSq
              go_simp
              exact rfl
            try simp only [Act.put, List.setIfInBounds_toArray, List.set_cons_zero, List.set_cons_succ]
            refine wpAnyH_done (by kernel_rfl) ?_ _
            go_wp2_with fail
            go_roundw
            case rel => exact ⟨k + 1, decide (i < (k : Int)), by omega, by go_num, rfl, HN, HG2, hx10.2, hB10⟩
            case measure => simp [intOf]; omega
      case neg =>
        have hke : k = ts.length := by omega
        have HT := Lib.hid (show b = true ↔ ¬ DstT ts by unfold DstT; rw [← hke]; exact HI.out)
        have HGT := Lib.hid (show GoodT ts from fun t ht => by
          obtain ⟨m, hm⟩ := List.getElem?_of_mem ht
          exact HG.out m t (by have := (List.getElem?_eq_some_iff.1 hm).1; omega) hm)
        have hn : decide ((k : Int) < (ts.length : Int)) = false := decide_eq_false (by omega)
        clear HI HG hke
        go_wp2_with fail
        clear hn hlt hk ca za
        go_loopw [3, 5] (fun p3 p4 wr => ∃ (k : Nat) (b : Bool), k ≤ cs.length ∧ p4 = .int .i64 k ∧ p3 = .bool b ∧ Hid (b = true ↔ ¬ (DstT ts ∧ Dst Cmd.bare cs k)) ∧ Hid (∀ (m : Nat) (y : Cmd), m < k → cs[m]? = some y → y.Ok) ∧ Box wr (w.heap.size) [.slice a1 ts.length c1, .slice a2 cs.length c2] ∧ Below w.heap.size w wr) (fun _ p4 _ => cs.length - (intOf p4).toNat)
        case atStart => exact ⟨0, b, Nat.zero_le _, rfl, rfl, Lib.hid ⟨fun h g => HT.out.1 h g.1, fun h => HT.out.2 fun g => h ⟨g, Dst.zero _ _⟩⟩, Lib.hid (fun _ _ h => absurd h (Nat.not_lt_zero _)), x_d, hB⟩
        case round =>
          obtain ⟨k, b, hk, rfl, rfl, HI, HG, x_d, hB⟩ := hrel
          have hs := hB.size
          have ca := x_d.c 1 _ rfl; have za := x_d.lt
          by_cases hlt : k < cs.length
          case pos =>
            obtain ⟨b1, o1, rfl, hR1⟩ := H2.out.get 47 rfl (List.getElem?_eq_getElem hlt)
            have x1 := range_below hR1 hB
            obtain ⟨i, hi⟩ := Fnd.ex (fun u => u.bare = cs[k].bare) cs
            have HD := Lib.hid (Dst.succ (f := Cmd.bare) hlt hi); have HF := Lib.hid hi
            have HK := Lib.hid (show ∀ (p : Cmd → Prop), p cs[k] → (∀ (m : Nat) (y : Cmd), m < k → cs[m]? = some y → p y) → ∀ (m : Nat) (y : Cmd), m < k + 1 → cs[m]? = some y → p y from fun p h0 h m y hm hy => by
              rcases Nat.lt_or_ge m k with g | g
              · exact h m y g hy
              · obtain rfl : m = k := by omega
                rw [List.getElem?_eq_getElem hlt] at hy
                cases hy
                exact h0)
            have HE := Lib.hid (List.getElem_mem hlt)
            obtain ⟨f, hf⟩ : ∃ f, cs[k] = f := ⟨_, rfl⟩
            rw [hf] at x1 HF HK HE
            clear hi hf hR1
            have AT := fun (W : World) (v : Value) (h : IsR LC W v cs) => rcat_is f W h HF.out; have SF := Lib.hid (size_cmd f)
            obtain ⟨VF, hVF⟩ : ∃ X, (ccell f) = X := ⟨_, rfl⟩
            rw [show LC.f f = VF from hVF] at x1; rw [hVF] at AT SF
            have i0 : (0 : Int) ≤ (k : Int) := (by omega); have i1 : (k : Int) < (cs.length : Int) := (by omega)
            by_cases hg : f.Ok
            case neg =>
              have IC := fun W => risc_is f (q := false) (Lib.hid ⟨fun g => absurd g hg, fun g => by cases g⟩) W; rw [hVF] at IC; clear hVF
              have HX := Lib.hid (show (8 : Int) = q from ChkD.uniq (Or.inr (Or.inl ⟨rfl, HM.out, fun h => hg (h.2 f HE.out)⟩)) HQ.out)
              clear HD HF HK HE AT hg
              go_wp2_with (refine wpList_load_rangew rfl _ _ rfl x1 rfl Tryd.underlying39 rfl SF.out ?_)
              refine (IC _).mono ?_
              rintro e w2 ⟨rfl, hb⟩
              have hB2 := below_thru hB hb; have x_d2 := Box.below x_d hb; have x12 := range_below x1 hb
              clear hB x_d x1 hb hs ca za
              have hB := hB2; have x_d := x_d2; have x1 := x12; clear hB2 x_d2 x12
              have hs := hB.size; have ca := x_d.c 1 _ rfl; have za := x_d.lt
              go_wp2_with fail
              go_returns
              exact ⟨ret_i12 HX.out, hB⟩
            case pos =>
              have IC := fun W => risc_is f (q := true) (Lib.hid ⟨fun _ => rfl, fun _ => hg⟩) W; rw [hVF] at IC; clear hVF
              have HG2 := Lib.hid (HK.out (fun y => y.Ok) hg HG.out)
              clear hg HG HK HE
              go_wp2_with (refine wpList_load_rangew rfl _ _ rfl x1 rfl Tryd.underlying39 rfl SF.out ?_)
              refine (IC _).mono ?_
              rintro e w2 ⟨rfl, hb⟩
              have hB2 := below_thru hB hb; have x_d2 := Box.below x_d hb; have x12 := range_below x1 hb
              clear hB x_d x1 hb hs ca za
              have hB := hB2; have x_d := x_d2; have x1 := x12; clear hB2 x_d2 x12
              have hs := hB.size; have ca := x_d.c 1 _ rfl; have za := x_d.lt
              go_upto_region 15 with fail
              cases b with
              | true =>
                have HN : Hid (true = true ↔ ¬ (DstT ts ∧ Dst Cmd.bare cs (k + 1))) := Lib.hid ⟨fun _ => fun h => HI.out.1 rfl ⟨h.1, (HD.out.1 h.2).1⟩, fun _ => rfl⟩
                clear HI HD HF
                refine wp_region_held_drew (S := fun w' => w'.rangeAt b1 (o1 + k * 47) VF ∧ Box w' w.heap.size [.slice a1 ts.length c1, .slice (some ⟨b1, o1, none⟩) cs.length c2]) (by kernel_rfl) ⟨range_below x1 ((Below.refl _ _).drew), x_d.drew⟩ (fun _ => ?_)
                refine F_drew (F := fun W => wpAnyH _ _ _ _ _ _ _ _ W) ?_
                intro W0 hb0
                have hx0 := And.intro (range_below x1 hb0) (Box.below x_d hb0); have hB0 := below_thru hB hb0
                clear x1 x_d hB hb0 hs ca za
                refine takeH 0 55 (v := ?vut0_1) rfl (by rfl) (by kernel_rfl) (by kernel_rfl) (by kernel_rfl) (fun _ _ _ h => h) (Or.inl ⟨by rfl, ?_⟩) (hx0) ?_
                rotate_left
                · intro wq hSq
                  go_simp
                  exact rfl
                try simp only [Act.put, List.setIfInBounds_toArray, List.set_cons_zero, List.set_cons_succ]
                refine takeH 1 56 (v := ?vut1_2) rfl (by rfl) (by kernel_rfl) (by kernel_rfl) (by kernel_rfl) (fun _ _ _ h => h) (Or.inl ⟨by rfl, ?_⟩) (hx0) ?_
                rotate_left
                · intro wq hSq
                  go_simp
                  exact rfl
                try simp only [Act.put, List.setIfInBounds_toArray, List.set_cons_zero, List.set_cons_succ]
                refine takeH 2 57 (v := undef) rfl (by rfl) (by kernel_rfl) (by kernel_rfl) (by kernel_rfl) (fun _ _ _ h => h) (Or.inr ⟨by rfl, rfl⟩) (hx0) ?_
                try simp only [Act.put, List.setIfInBounds_toArray, List.set_cons_zero, List.set_cons_succ]
                refine takeH 3 58 (v := undef) rfl (by rfl) (by kernel_rfl) (by kernel_rfl) (by kernel_rfl) (fun _ _ _ h => h) (Or.inr ⟨by rfl, rfl⟩) (hx0) ?_
                try simp only [Act.put, List.setIfInBounds_toArray, List.set_cons_zero, List.set_cons_succ]
                refine takeH 4 59 (v := undef) rfl (by rfl) (by kernel_rfl) (by kernel_rfl) (by kernel_rfl) (fun _ _ _ h => h) (Or.inr ⟨by rfl, rfl⟩) (hx0) ?_
                try simp only [Act.put, List.setIfInBounds_toArray, List.set_cons_zero, List.set_cons_succ]
                refine takeH 5 60 (v := undef) rfl (by rfl) (by kernel_rfl) (by kernel_rfl) (by kernel_rfl) (fun _ _ _ h => h) (Or.inr ⟨by rfl, rfl⟩) (hx0) ?_
                try simp only [Act.put, List.setIfInBounds_toArray, List.set_cons_zero, List.set_cons_succ]
                refine takeH 6 61 (v := undef) rfl (by rfl) (by kernel_rfl) (by kernel_rfl) (by kernel_rfl) (fun _ _ _ h => h) (Or.inr ⟨by rfl, rfl⟩) (hx0) ?_
                try simp only [Act.put, List.setIfInBounds_toArray, List.set_cons_zero, List.set_cons_succ]
                refine takeH 7 62 (v := undef) rfl (by rfl) (by kernel_rfl) (by kernel_rfl) (by kernel_rfl) (fun _ _ _ h => h) (Or.inr ⟨by rfl, rfl⟩) (hx0) ?_
                try simp only [Act.put, List.setIfInBounds_toArray, List.set_cons_zero, List.set_cons_succ]
                refine takeH 8 63 (v := undef) rfl (by rfl) (by kernel_rfl) (by kernel_rfl) (by kernel_rfl) (fun _ _ _ h => h) (Or.inr ⟨by rfl, rfl⟩) (hx0) ?_
                try simp only [Act.put, List.setIfInBounds_toArray, List.set_cons_zero, List.set_cons_succ]
                refine takeH 9 64 (v := undef) rfl (by rfl) (by kernel_rfl) (by kernel_rfl) (by kernel_rfl) (fun _ _ _ h => h) (Or.inr ⟨by rfl, rfl⟩) (hx0) ?_
                try simp only [Act.put, List.setIfInBounds_toArray, List.set_cons_zero, List.set_cons_succ]
                refine takeH 10 65 (v := undef) rfl (by rfl) (by kernel_rfl) (by kernel_rfl) (by kernel_rfl) (fun _ _ _ h => h) (Or.inr ⟨by rfl, rfl⟩) (hx0) ?_
                try simp only [Act.put, List.setIfInBounds_toArray, List.set_cons_zero, List.set_cons_succ]
                refine takeH 11 66 (v := undef) rfl (by rfl) (by kernel_rfl) (by kernel_rfl) (by kernel_rfl) (fun _ _ _ h => h) (Or.inr ⟨by rfl, rfl⟩) (hx0) ?_
                try simp only [Act.put, List.setIfInBounds_toArray, List.set_cons_zero, List.set_cons_succ]
                refine takeH 12 67 (v := ?vut12_3) rfl (by rfl) (by kernel_rfl) (by kernel_rfl) (by kernel_rfl) (fun _ _ _ h => h) (Or.inl ⟨by rfl, ?_⟩) (hx0) ?_
                rotate_left
                · intro wq hSq
                  go_simp
                  exact rfl
                try simp only [Act.put, List.setIfInBounds_toArray, List.set_cons_zero, List.set_cons_succ]
                refine takeH 13 3 (v := ?vut13_4) rfl (by rfl) (by kernel_rfl) (by kernel_rfl) (by kernel_rfl) (fun _ _ _ h => h) (Or.inl ⟨by rfl, ?_⟩) (hx0) ?_
                rotate_left
                · intro wq hSq
                  go_simp
                  exact rfl
                try simp only [Act.put, List.setIfInBounds_toArray, List.set_cons_zero, List.set_cons_succ]
                refine wpAnyH_done (by kernel_rfl) ?_ _
                go_wp2_with fail
                go_roundw
                case rel => exact ⟨k + 1, true, by omega, by go_num, rfl, HN, HG2, hx0.2, hB0⟩
                case measure => simp [intOf]; omega
              | false =>
                have HN : Hid (decide (i < (k : Int)) = true ↔ ¬ (DstT ts ∧ Dst Cmd.bare cs (k + 1))) := Lib.hid ⟨fun h g => (Int.not_lt.2 (HD.out.1 g.2).2) (of_decide_eq_true h), fun h => decide_eq_true (Classical.byContradiction fun g => Bool.false_ne_true (HI.out.2 fun e => h ⟨e.1, HD.out.2 ⟨e.2, Int.not_lt.1 g⟩⟩))⟩
                clear HI HD HF
                refine wp_region_held_drew (S := fun w' => w'.rangeAt b1 (o1 + k * 47) VF ∧ Box w' w.heap.size [.slice a1 ts.length c1, .slice (some ⟨b1, o1, none⟩) cs.length c2]) (by kernel_rfl) ⟨range_below x1 ((Below.refl _ _).drew), x_d.drew⟩ (fun _ => ?_)
                refine F_drew (F := fun W => wpAnyH _ _ _ _ _ _ _ _ W) ?_
                intro W0 hb0
                have hx0 := And.intro (range_below x1 hb0) (Box.below x_d hb0); have hB0 := below_thru hB hb0
                clear x1 x_d hB hb0 hs ca za
                refine takeH 0 55 (v := ?vuf0_1) rfl (by rfl) (by kernel_rfl) (by kernel_rfl) (by kernel_rfl) (fun _ _ _ h => h) (Or.inl ⟨by rfl, ?_⟩) (hx0) ?_
                rotate_left
                · intro wq hSq
                  go_simp
                  exact rfl
                try simp only [Act.put, List.setIfInBounds_toArray, List.set_cons_zero, List.set_cons_succ]
                refine takeH 1 56 (v := ?vuf1_2) rfl (by rfl) (by kernel_rfl) (by kernel_rfl) (by kernel_rfl) (fun _ _ _ h => h) (Or.inl ⟨by rfl, ?_⟩) (hx0) ?_
                rotate_left
                · intro wq hSq
                  go_simp
                  exact rfl
                try simp only [Act.put, List.setIfInBounds_toArray, List.set_cons_zero, List.set_cons_succ]
                refine takeH 2 57 (v := ?vuf2_3) rfl (by rfl) (by kernel_rfl) (by kernel_rfl) (by kernel_rfl) (fun _ _ _ h => h) (Or.inl ⟨by rfl, ?_⟩) (hx0) ?_
                rotate_left
                · intro wq hSq
                  go_simp
                  exact rfl
                try simp only [Act.put, List.setIfInBounds_toArray, List.set_cons_zero, List.set_cons_succ]
                refine takeH 3 58 (v := ?vuf3_4) rfl (by rfl) (by kernel_rfl) (by kernel_rfl) (by kernel_rfl) (fun _ _ _ h => h) (Or.inl ⟨by rfl, ?_⟩) (hx0) ?_
                rotate_left
                · intro wq hSq
                  have cq := hSq.2.c 1 _ rfl
                  have zq := lt_of_cell cq
                  go_simp
                  exact rfl
                try simp only [Act.put, List.setIfInBounds_toArray, List.set_cons_zero, List.set_cons_succ]
                refine takeH 4 59 (v := ?vuf4_5) rfl (by rfl) (by kernel_rfl) (by kernel_rfl) (by kernel_rfl) (fun _ _ _ h => h) (Or.inl ⟨by rfl, ?_⟩) (hx0) ?_
                rotate_left
                · intro wq hSq
                  go_simp
                  exact rfl
                try simp only [Act.put, List.setIfInBounds_toArray, List.set_cons_zero, List.set_cons_succ]
                refine takeH 5 60 (v := ?vuf5_6) rfl (by rfl) (by kernel_rfl) (by kernel_rfl) (by kernel_rfl) (fun _ _ _ h => h) (Or.inl ⟨by rfl, ?_⟩) (hx0) ?_
                rotate_left
                · intro wq hSq
                  have cq := hSq.2.c 1 _ rfl
                  have zq := lt_of_cell cq
                  go_simp
                  exact rfl
                try simp only [Act.put, List.setIfInBounds_toArray, List.set_cons_zero, List.set_cons_succ]
                refine takeH 6 61 (v := ?vuf6_7) rfl (by rfl) (by kernel_rfl) (by kernel_rfl) (by kernel_rfl) (fun _ _ _ h => h) (Or.inl ⟨by rfl, ?_⟩) (hx0) ?_
                rotate_left
                · intro wq hSq
                  go_simp
                  exact rfl
                try simp only [Act.put, List.setIfInBounds_toArray, List.set_cons_zero, List.set_cons_succ]
                refine takeH 7 62 (v := ?vuf7_8) rfl (by rfl) (by kernel_rfl) (by kernel_rfl) (by kernel_rfl) (fun _ _ _ h => h) (Or.inl ⟨by rfl, ?_⟩) (hx0) ?_
                rotate_left
                · intro wq hSq
                  go_simp
                  exact rfl
                try simp only [Act.put, List.setIfInBounds_toArray, List.set_cons_zero, List.set_cons_succ]
                refine takeH 10 65 (v := ?vuf10_9) rfl (by rfl) (by kernel_rfl) (by kernel_rfl) (by kernel_rfl) (fun _ _ _ h => h) (Or.inl ⟨by rfl, ?_⟩) (hx0) ?_
                rotate_left
                · intro wq hSq
                  go_simp
                  exact rfl
                try simp only [Act.put, List.setIfInBounds_toArray, List.set_cons_zero, List.set_cons_succ]
                refine takeH 8 63 (v := .agg VF.toArray) rfl (by rfl) (by kernel_rfl) (by kernel_rfl) (by kernel_rfl) (fun _ _ _ h => h) (yieldsIf_load_mid (by rfl) _ _ rfl _ _ rfl VF _ (fun wq hq => hq.1) Tryd.underlying39 rfl SF.out) (hx0) ?_
                try simp only [Act.put, List.setIfInBounds_toArray, List.set_cons_zero, List.set_cons_succ]
                refine wpAnyH_ready (rs := [9]) (by kernel_rfl) (by simp) (AllReadyH.cons rfl (fun K hK => ?_) AllReadyH.nil)
                go_simp
                refine (AT _ _ (H2.out.below hB0)).mono ?_
                rintro e W10 ⟨rfl, hb10⟩
                have hx10 := And.intro (range_below hx0.1 hb10) (Box.below hx0.2 hb10); have hB10 := below_thru hB0 hb10
                clear hx0 hB0 hb10
                refine hK.out _ _ hx10 (fun _ => ?_); clear hK
                refine takeH 11 66 (v := ?vuf11_11) rfl (by rfl) (by kernel_rfl) (by kernel_rfl) (by kernel_rfl) (fun _ _ _ h => h) (Or.inl ⟨by rfl, ?_⟩) (hx10) ?_
                rotate_left
                · intro wq hSq
                  go_simp
                  exact rfl
                try simp only [Act.put, List.setIfInBounds_toArray, List.set_cons_zero, List.set_cons_succ]
                refine takeH 12 67 (v := ?vuf12_12) rfl (by rfl) (by kernel_rfl) (by kernel_rfl) (by kernel_rfl) (fun _ _ _ h => h) (Or.inl ⟨by rfl, ?_⟩) (hx10) ?_
                rotate_left
                · intro wq hSq
                  go_simp
                  exact rfl
                try simp only [Act.put, List.setIfInBounds_toArray, List.set_cons_zero, List.set_cons_succ]
                refine takeH 13 3 (v := ?vuf13_13) rfl (by rfl) (by kernel_rfl) (by kernel_rfl) (by kernel_rfl) (fun _ _ _ h => h) (Or.inl ⟨by rfl, ?_⟩) (hx10) ?_
                rotate_left
                · intro wq hSq
                  go_simp
                  exact rfl
                try simp only [Act.put, List.setIfInBounds_toArray, List.set_cons_zero, List.set_cons_succ]
                refine wpAnyH_done (by kernel_rfl) ?_ _
                go_wp2_with fail
                go_roundw
                case rel => exact ⟨k + 1, decide (i < (k : Int)), by omega, by go_num, rfl, HN, HG2, hx10.2, hB10⟩
                case measure => simp [intOf]; omega
          case neg =>
            have hke : k = cs.length := by omega
            have HT2 := Lib.hid (show b = true ↔ ¬ (DstT ts ∧ DstC cs) by unfold DstC; rw [← hke]; exact HI.out)
            have HGC := Lib.hid (show GoodC cs from fun t ht => by
              obtain ⟨m, hm⟩ := List.getElem?_of_mem ht
              exact HG.out m t (by have := (List.getElem?_eq_some_iff.1 hm).1; omega) hm)
            have hn : decide ((k : Int) < (cs.length : Int)) = false := decide_eq_false (by omega)
            clear HI HG hke
            cases b with
            | true =>
              have HX := Lib.hid (show (14 : Int) = q from ChkD.uniq (Or.inr (Or.inr (Or.inl ⟨rfl, HM.out, HGT.out, HGC.out, HT2.out.1 rfl⟩))) HQ.out)
              clear HT2
              go_wp2_with fail
              go_returns
              exact ⟨ret_i12 HX.out, hB⟩
            | false =>
              have HY := Lib.hid (show DstT ts ∧ DstC cs from Classical.byContradiction fun g => Bool.false_ne_true (HT2.out.2 g))
              have HX := Lib.hid (show (0 : Int) = q from ChkD.uniq (Or.inr (Or.inr (Or.inr ⟨rfl, HM.out, HGT.out, HGC.out, HY.out.1, HY.out.2⟩))) HQ.out)
              clear HT2 HY
              go_wp2_with fail
              go_returns
              exact ⟨ret_i12 HX.out, hB⟩

end Go.Proofs.YtpccahdbienjeaaDoor
