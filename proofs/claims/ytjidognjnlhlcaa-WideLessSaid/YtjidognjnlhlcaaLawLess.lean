/-
  For any three wide numbers WideLess returns true and leaves its arguments as they were. Conditions: none.
-/
import Derived.Test.YtjidognjnlhlcaaLessB
import Derived.Test.YtjidognjnlhlcaaOpen
namespace Go.Proofs.Ytjidognjnlhlcaa
open Go.ChangeShapes Go.WideShapes Go.ChangeAt Go.RowKit Go.Joins

theorem wN_inj {a b c d : Int} (hb : isU b) (hd : isU d) (e : wN a b = wN c d) : a = c ∧ b = d := by
  unfold isU at hb hd
  unfold wN at e
  omega
theorem wEq_false {a b c d : Int} (h : wN a b ≠ wN c d) : wEq a b c d = false := by
  unfold wEq
  rw [Bool.and_eq_false_iff]
  rcases Decidable.em (a = c) with e | e
  · right
    rw [beq_eq_false_iff_ne]
    rintro rfl
    exact h (by rw [e])
  · left
    exact beq_eq_false_iff_ne.2 e
theorem cmp_lt {x y : Int} (h : x < y) : cmpI x y = -1 := if_pos h
theorem cmp_gt {x y : Int} (h : y < x) : cmpI x y = 1 := (if_neg (by omega)).trans (if_pos h)
theorem cmp_eq (x : Int) : cmpI x x = 0 := (if_neg (by omega)).trans (if_neg (by omega))
theorem cmp_pos {x y : Int} (h : ¬ y < x) : cmpI x y ≤ 0 := by
  unfold cmpI
  rw [if_neg h]
  split <;> omega

theorem less_any (ah al bh bl ch cl : Int) (w : World) (h1 : isU ah) (h2 : isU al) (h3 : isU bh) (h4 : isU bl) (h5 : isU ch) (h6 : isU cl) : lessCall ah al bh bl ch cl w := by
  have hA := isW_of h1 h2
  have hB := isW_of h3 h4
  have hC := isW_of h5 h6
  have top : ∀ n : Int, 0 ≤ n → n < 340282366920938463463374607431768211456 → isW n := fun n a b => ⟨a, b⟩
  have pos : ∀ {x y : Int}, ¬ y < x → decide (cmpI x y > 0) = false := fun {x y} h => by
    have := cmp_pos h
    exact decide_eq_false (by omega)
  have non : ∀ {x y : Int}, ¬ y < x → decide (cmpI x y ≤ 0) = true := fun {x y} h => decide_eq_true (cmp_pos h)
  obtain ⟨A, eA⟩ : ∃ A, wN ah al = A := ⟨_, rfl⟩
  obtain ⟨B, eB⟩ : ∃ B, wN bh bl = B := ⟨_, rfl⟩
  obtain ⟨C, eC⟩ : ∃ C, wN ch cl = C := ⟨_, rfl⟩
  rw [eA] at hA
  rw [eB] at hB
  rw [eC] at hC
  have hA' := hA
  have hB' := hB
  have hC' := hC
  unfold isW at hA' hB' hC'
  rcases Int.lt_trichotomy A B with hlt | heq | hgt
  · have ne : wEq ah al bh bl = false := wEq_false (by rw [eA, eB]; omega)
    have en : Hid (cmpI (wN ah al) (wN bh bl) = -1) := by refine Lib.hid ?_; rw [eA, eB]; exact cmp_lt hlt
    have en' : Hid (cmpI (wN bh bl) (wN ah al) = 1) := by refine Lib.hid ?_; rw [eA, eB]; exact cmp_gt hlt
    have ed : Hid (wN ah al - wN bh bl < 0) := by refine Lib.hid ?_; rw [eA, eB]; omega
    by_cases f : A + C < 340282366920938463463374607431768211456
    · have ex : Hid (wN ah al + wN ch cl = wN (wHi (A + C)) (wLo (A + C))) := by refine Lib.hid ?_; rw [wN_parts, eA, eC]
      have gx := isU_hi (top (A + C) (by omega) f)
      by_cases g : B + C < 340282366920938463463374607431768211456
      · have ey : Hid (wN bh bl + wN ch cl = wN (wHi (B + C)) (wLo (B + C))) := by refine Lib.hid ?_; rw [wN_parts, eB, eC]
        have gy := isU_hi (top (B + C) (by omega) g)
        have exy : Hid (cmpI (wN (wHi (A + C)) (wLo (A + C))) (wN (wHi (B + C)) (wLo (B + C))) = -1) := by refine Lib.hid ?_; rw [wN_parts, wN_parts]; exact cmp_lt (by omega)
        by_cases m : C < B
        · exact less_lt_11_1 ah al bh bl ch cl _ _ _ _ w h1 h2 h3 h4 h5 h6 en en' ed ne gx (isU_lo _) ex gy (isU_lo _) ey exy (by refine Lib.hid ?_; rw [eB, eC]; exact cmp_gt m)
        · exact less_lt_11_0 ah al bh bl ch cl _ _ _ _ w h1 h2 h3 h4 h5 h6 en en' ed ne gx (isU_lo _) ex gy (isU_lo _) ey exy (cmpI B C) (by refine Lib.hid ?_; rw [eB, eC]) (pos m) (cmpI A C) (by refine Lib.hid ?_; rw [eA, eC]) (non (by omega))
      · have ey : Hid (340282366920938463463374607431768211456 ≤ wN bh bl + wN ch cl) := by refine Lib.hid ?_; rw [eB, eC]; omega
        by_cases m : C < B
        · exact less_lt_10_1 ah al bh bl ch cl _ _ w h1 h2 h3 h4 h5 h6 en en' ed ne gx (isU_lo _) ex ey (by refine Lib.hid ?_; rw [eB, eC]; exact cmp_gt m)
        · exact less_lt_10_0 ah al bh bl ch cl _ _ w h1 h2 h3 h4 h5 h6 en en' ed ne gx (isU_lo _) ex ey (cmpI B C) (by refine Lib.hid ?_; rw [eB, eC]) (pos m) (cmpI A C) (by refine Lib.hid ?_; rw [eA, eC]) (non (by omega))
    · have ex : Hid (340282366920938463463374607431768211456 ≤ wN ah al + wN ch cl) := by refine Lib.hid ?_; rw [eA, eC]; omega
      have ey : Hid (340282366920938463463374607431768211456 ≤ wN bh bl + wN ch cl) := by refine Lib.hid ?_; rw [eB, eC]; omega
      by_cases m : C < B
      · exact less_lt_00_1 ah al bh bl ch cl w h1 h2 h3 h4 h5 h6 en en' ed ne ex ey (by refine Lib.hid ?_; rw [eB, eC]; exact cmp_gt m)
      · exact less_lt_00_0 ah al bh bl ch cl w h1 h2 h3 h4 h5 h6 en en' ed ne ex ey (cmpI B C) (by refine Lib.hid ?_; rw [eB, eC]) (pos m) (cmpI A C) (by refine Lib.hid ?_; rw [eA, eC]) (non (by omega))
  · obtain ⟨rfl, rfl⟩ := wN_inj h2 h4 (by rw [eA, eB]; exact heq : wN ah al = wN bh bl)
    have en : Hid (cmpI (wN ah al) (wN ah al) = 0) := Lib.hid (cmp_eq _)
    have ed : Hid (wN ah al - wN ah al = wN 0 0) := by refine Lib.hid ?_; rw [show wN 0 0 = 0 from rfl]; omega
    have ed' : Hid (wN 0 0 + wN ah al = wN ah al) := by refine Lib.hid ?_; rw [show wN 0 0 = 0 from rfl]; omega
    by_cases f : A + C < 340282366920938463463374607431768211456
    · have ex : Hid (wN ah al + wN ch cl = wN (wHi (A + C)) (wLo (A + C))) := by refine Lib.hid ?_; rw [wN_parts, eA, eC]
      have gx := isU_hi (top (A + C) (by omega) f)
      have exy : Hid (cmpI (wN (wHi (A + C)) (wLo (A + C))) (wN (wHi (A + C)) (wLo (A + C))) = 0) := Lib.hid (cmp_eq _)
      by_cases m : C < A
      · exact less_eq_11_1 ah al ch cl 0 0 _ _ w h1 h2 h5 h6 en en u0 u0 ed ed' gx (isU_lo _) ex exy (by refine Lib.hid ?_; rw [eA, eC]; exact cmp_gt m)
      · exact less_eq_11_0 ah al ch cl 0 0 _ _ w h1 h2 h5 h6 en en u0 u0 ed ed' gx (isU_lo _) ex exy (cmpI A C) (by refine Lib.hid ?_; rw [eA, eC]) (pos m) (cmpI A C) (by refine Lib.hid ?_; rw [eA, eC]) (non m)
    · have ex : Hid (340282366920938463463374607431768211456 ≤ wN ah al + wN ch cl) := by refine Lib.hid ?_; rw [eA, eC]; omega
      by_cases m : C < A
      · exact less_eq_00_1 ah al ch cl 0 0 w h1 h2 h5 h6 en en u0 u0 ed ed' ex (by refine Lib.hid ?_; rw [eA, eC]; exact cmp_gt m)
      · exact less_eq_00_0 ah al ch cl 0 0 w h1 h2 h5 h6 en en u0 u0 ed ed' ex (cmpI A C) (by refine Lib.hid ?_; rw [eA, eC]) (pos m) (cmpI A C) (by refine Lib.hid ?_; rw [eA, eC]) (non m)
  · have ne : wEq ah al bh bl = false := wEq_false (by rw [eA, eB]; omega)
    have en : Hid (cmpI (wN ah al) (wN bh bl) = 1) := by refine Lib.hid ?_; rw [eA, eB]; exact cmp_gt hgt
    have en' : Hid (cmpI (wN bh bl) (wN ah al) = -1) := by refine Lib.hid ?_; rw [eA, eB]; exact cmp_lt hgt
    have gd := isU_hi (top (A - B) (by omega) (by omega))
    have ed : Hid (wN ah al - wN bh bl = wN (wHi (A - B)) (wLo (A - B))) := by refine Lib.hid ?_; rw [wN_parts, eA, eB]
    have ed' : Hid (wN (wHi (A - B)) (wLo (A - B)) + wN bh bl = wN ah al) := by refine Lib.hid ?_; rw [wN_parts, eA, eB]; omega
    by_cases f : A + C < 340282366920938463463374607431768211456
    · have ex : Hid (wN ah al + wN ch cl = wN (wHi (A + C)) (wLo (A + C))) := by refine Lib.hid ?_; rw [wN_parts, eA, eC]
      have gx := isU_hi (top (A + C) (by omega) f)
      have ey : Hid (wN bh bl + wN ch cl = wN (wHi (B + C)) (wLo (B + C))) := by refine Lib.hid ?_; rw [wN_parts, eB, eC]
      have gy := isU_hi (top (B + C) (by omega) (by omega))
      have exy : Hid (cmpI (wN (wHi (A + C)) (wLo (A + C))) (wN (wHi (B + C)) (wLo (B + C))) = 1) := by refine Lib.hid ?_; rw [wN_parts, wN_parts]; exact cmp_gt (by omega)
      exact less_gt_11_0 ah al bh bl ch cl _ _ _ _ _ _ w h1 h2 h3 h4 h5 h6 en en' gd (isU_lo _) ed ed' ne gx (isU_lo _) ex gy (isU_lo _) ey exy
    · have ex : Hid (340282366920938463463374607431768211456 ≤ wN ah al + wN ch cl) := by refine Lib.hid ?_; rw [eA, eC]; omega
      by_cases g : B + C < 340282366920938463463374607431768211456
      · have ey : Hid (wN bh bl + wN ch cl = wN (wHi (B + C)) (wLo (B + C))) := by refine Lib.hid ?_; rw [wN_parts, eB, eC]
        exact less_gt_01_0 ah al bh bl ch cl _ _ _ _ w h1 h2 h3 h4 h5 h6 en en' gd (isU_lo _) ed ed' ne ex (isU_hi (top (B + C) (by omega) g)) (isU_lo _) ey
      · have ey : Hid (340282366920938463463374607431768211456 ≤ wN bh bl + wN ch cl) := by refine Lib.hid ?_; rw [eB, eC]; omega
        exact less_gt_00_0 ah al bh bl ch cl _ _ w h1 h2 h3 h4 h5 h6 en en' gd (isU_lo _) ed ed' ne ex ey

theorem less_walk : LawWalk Try.prog 8 Try.f8 := by
  intro H enc W base args ds ps hval hA _ _
  rw [Try.params8] at hA hval
  obtain ⟨v0, v1, v2, d0, d1, d2, p0, p1, p2, rfl, rfl, rfl, h0, h1, h2⟩ := trodAll_three hA
  obtain ⟨a, b, rfl, ha, hb⟩ := open_wide (hval 0 _ v0 rfl rfl) h0
  obtain ⟨c, d, rfl, hc, hd⟩ := open_wide (hval 1 _ v1 rfl rfl) h1
  obtain ⟨e, f, rfl, he, hf⟩ := open_wide (hval 2 _ v2 rfl rfl) h2
  exact less_any a b c d e f W ha hb hc hd he hf

set_option maxRecDepth 100000 in
theorem less_lifted (os : Os) (started : os.Started) (H : Type) (enc : TypeId × Value → H) :
    ReturnsInHanded {} Try.checked os 8 .any (Rows.wideLessSpec.pre6 enc Try.prog Try.f8 Rows.wideLessRow.domain false) (Rows.wideLessSpec.post enc Try.prog Try.f8 false true false false) :=
  law_lifted (C := Try.checked) (s := Rows.wideLessSpec) (conds := Rows.wideLessRow.domain) (tb := 4) own laidOut started (by kernel_rfl) Try.func8
    (ChangeSpec.witness6 (enc := enc) (C := Try.checked) false ⟨#[], #[.agg #[.int .u64 0, .int .u64 0], .agg #[.int .u64 0, .int .u64 0], .agg #[.int .u64 0, .int .u64 0]], []⟩ 8 (by kernel_rfl) (by kernel_rfl) (by kernel_rfl) (by kernel_rfl))
    (by rw [show Try.f8.params = _ from Try.params8]; decide +kernel) (by kernel_rfl) Try.underlying4 rfl
    (fun ds hl => by
      rw [show Try.f8.params = _ from Try.params8] at hl
      match ds, hl with
      | [_, _, _], _ => rfl) less_walk

set_option maxRecDepth 100000 in
theorem less_over : Rows.wideLessRow.holds Try.pinned (OpenSpec.ofChange Rows.wideLessSpec) :=
  OpenClaim.holds_of_wide 8 Try.f8 rfl rfl rfl rfl rfl rfl rfl ⟨rfl, rfl, rfl, rfl, rfl⟩ rfl rfl rfl rfl rfl (by kernel_rfl) Try.func8 (by kernel_rfl)
    (of_decide_eq_true (by kernel_rfl)) (by unfold Func.isWrapper; first | (rw [if_pos (by decide +kernel)]; kernel_rfl) | (rw [if_neg (by decide +kernel)]; exact ⟨rfl, rfl⟩))
    (fun os started H enc _ => less_lifted os started H enc)

/-- The given statement. -/
theorem less_holds : Rows.WideLessSaid := less_over
#print axioms less_holds
end Go.Proofs.Ytjidognjnlhlcaa
