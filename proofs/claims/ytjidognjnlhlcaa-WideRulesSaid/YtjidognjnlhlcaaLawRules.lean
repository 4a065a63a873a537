/-
  For any three wide numbers and three small ones WideRules returns true and leaves its arguments as they were. Conditions: none.
-/
import Derived.Test.YtjidognjnlhlcaaRules
import Derived.Test.YtjidognjnlhlcaaOpen
namespace Go.Proofs.Ytjidognjnlhlcaa
open Go.ChangeShapes Go.WideShapes Go.ChangeAt Go.RowKit Go.Joins

theorem isW_mul {x y : Int} (h1 : isU x) (h2 : isU y) : isW (x * y) := by
  unfold isU at *
  have h : x * y ≤ 18446744073709551615 * 18446744073709551615 := Int.mul_le_mul h1.2 h2.2 h2.1 (by omega)
  have h0 : 0 ≤ x * y := Int.mul_nonneg h1.1 h2.1
  unfold isW
  omega
theorem isW_mk {n : Int} (h : 0 ≤ n) (h' : n < 340282366920938463463374607431768211456) : isW n := ⟨h, h'⟩

theorem rules_any (ah al bh bl ch cl x y z : Int) (w : World) (h1 : isU ah) (h2 : isU al) (h3 : isU bh) (h4 : isU bl) (h5 : isU ch) (h6 : isU cl) (hx : isU x) (hy : isU y) (hz : isU z) : rulesCall ah al bh bl ch cl x y z w := by
  have hA := isW_of h1 h2
  have hB := isW_of h3 h4
  have hC := isW_of h5 h6
  have hY : isU (y / 2) := by unfold isU at *; omega
  have hZ : isU (z / 2) := by unfold isU at *; omega
  have hYZ : isU (y / 2 + z / 2) := by unfold isU at *; omega
  have hsum : IntKind.u64.wrap (y / 2 + z / 2) = y / 2 + z / 2 := IntWalk.u64_in _ ⟨hYZ.1, hYZ.2⟩
  have wm := isW_mul hx hY
  have wn := isW_mul hx hZ
  have wo := isW_mul hx hYZ
  have ep : Hid (x * y = wN (wHi (x * y)) (wLo (x * y))) := Lib.hid (wN_parts _).symm
  have em : Hid (x * (y / 2) = wN (wHi (x * (y / 2))) (wLo (x * (y / 2)))) := Lib.hid (wN_parts _).symm
  have en : Hid (x * (z / 2) = wN (wHi (x * (z / 2))) (wLo (x * (z / 2)))) := Lib.hid (wN_parts _).symm
  have eo : Hid (x * (y / 2 + z / 2) = wN (wHi (x * (y / 2 + z / 2))) (wLo (x * (y / 2 + z / 2)))) := Lib.hid (wN_parts _).symm
  have eo' : Hid (wN (wHi (x * (y / 2))) (wLo (x * (y / 2))) + wN (wHi (x * (z / 2))) (wLo (x * (z / 2))) = wN (wHi (x * (y / 2 + z / 2))) (wLo (x * (y / 2 + z / 2)))) := by
    refine Lib.hid ?_
    rw [wN_parts, wN_parts, wN_parts, Int.mul_add]
  have hA' := hA
  have hB' := hB
  have hC' := hC
  unfold isW at hA' hB' hC'
  by_cases e : wN ah al + wN bh bl < 340282366920938463463374607431768211456
  · have wq := isW_mk (n := wN ah al + wN bh bl) (by omega) e
    have eq : Hid (wN ah al + wN bh bl = wN (wHi (wN ah al + wN bh bl)) (wLo (wN ah al + wN bh bl))) := Lib.hid (wN_parts _).symm
    by_cases g : wN ah al + wN bh bl + wN ch cl < 340282366920938463463374607431768211456
    · have wr := isW_mk (n := wN ah al + wN bh bl + wN ch cl) (by omega) g
      have ws := isW_mk (n := wN bh bl + wN ch cl) (by omega) (by omega)
      exact rules_1 ah al bh bl ch cl x y z _ _ _ _ _ _ _ _ _ _ _ _ _ _ w h1 h2 h3 h4 h5 h6 hx hy hz hY hZ hYZ hsum (isU_lo _) ep (isU_hi wm) (isU_lo _) em (isU_hi wn) (isU_lo _) en (isU_hi wo) (isU_lo _) eo eo'
        (isU_hi wq) (isU_lo _) eq (isU_hi wr) (isU_lo _) (by refine Lib.hid ?_; rw [wN_parts, wN_parts]) (isU_hi ws) (isU_lo _) (Lib.hid (wN_parts _).symm) (by refine Lib.hid ?_; rw [wN_parts, wN_parts]; omega)
    · exact rules_2 ah al bh bl ch cl x y z _ _ _ _ _ _ _ _ _ _ w h1 h2 h3 h4 h5 h6 hx hy hz hY hZ hYZ hsum (isU_lo _) ep (isU_hi wm) (isU_lo _) em (isU_hi wn) (isU_lo _) en (isU_hi wo) (isU_lo _) eo eo'
        (isU_hi wq) (isU_lo _) eq (by refine Lib.hid ?_; rw [wN_parts]; omega) (isU_hi (isW_addV (by omega)))
  · exact rules_3 ah al bh bl ch cl x y z _ _ _ _ _ _ _ _ w h1 h2 h3 h4 h5 h6 hx hy hz hY hZ hYZ hsum (isU_lo _) ep (isU_hi wm) (isU_lo _) em (isU_hi wn) (isU_lo _) en (isU_hi wo) (isU_lo _) eo eo'
      (Lib.hid (by omega)) (isU_hi (isW_addV (by omega)))

theorem rules_walk : LawWalk Try.prog 7 Try.f7 := by
  intro H enc W base args ds ps hval hA _ _
  rw [Try.params7] at hA hval
  obtain ⟨v0, vs0, d0, ds0, p0, q0, hargs, rfl, rfl, h0, r0⟩ := trodAll_cons hA
  obtain ⟨v1, vs1, d1, ds1, p1, q1, rfl, rfl, rfl, h1, r1⟩ := trodAll_cons r0
  obtain ⟨v2, vs2, d2, ds2, p2, q2, rfl, rfl, rfl, h2, r2⟩ := trodAll_cons r1
  obtain ⟨v3, vs3, d3, ds3, p3, q3, rfl, rfl, rfl, h3, r3⟩ := trodAll_cons r2
  obtain ⟨v4, vs4, d4, ds4, p4, q4, rfl, rfl, rfl, h4, r4⟩ := trodAll_cons r3
  obtain ⟨v5, vs5, d5, ds5, p5, q5, rfl, rfl, rfl, h5, r5⟩ := trodAll_cons r4
  obtain ⟨rfl, rfl, rfl⟩ := trodAll_nil r5
  obtain rfl : args = #[v0, v1, v2, v3, v4, v5] := by cases args; simp_all
  obtain ⟨a0, b0, rfl, ha0, hb0⟩ := open_wide (hval 0 _ v0 rfl rfl) h0
  obtain ⟨a1, b1, rfl, ha1, hb1⟩ := open_wide (hval 1 _ v1 rfl rfl) h1
  obtain ⟨a2, b2, rfl, ha2, hb2⟩ := open_wide (hval 2 _ v2 rfl rfl) h2
  obtain ⟨c0, rfl, hc0⟩ := open_u64 (hval 3 _ v3 rfl rfl) h3
  obtain ⟨c1, rfl, hc1⟩ := open_u64 (hval 4 _ v4 rfl rfl) h4
  obtain ⟨c2, rfl, hc2⟩ := open_u64 (hval 5 _ v5 rfl rfl) h5
  exact rules_any a0 b0 a1 b1 a2 b2 c0 c1 c2 W ha0 hb0 ha1 hb1 ha2 hb2 hc0 hc1 hc2

set_option maxRecDepth 100000 in
theorem rules_lifted (os : Os) (started : os.Started) (H : Type) (enc : TypeId × Value → H) :
    ReturnsInHanded {} Try.checked os 7 .any (Rows.wideRulesSpec.pre6 enc Try.prog Try.f7 Rows.wideRulesRow.domain false) (Rows.wideRulesSpec.post enc Try.prog Try.f7 false true false false) :=
  law_lifted (C := Try.checked) (s := Rows.wideRulesSpec) (conds := Rows.wideRulesRow.domain) (tb := 4) own laidOut started (by kernel_rfl) Try.func7
    (ChangeSpec.witness6 (enc := enc) (C := Try.checked) false ⟨#[], #[.agg #[.int .u64 0, .int .u64 0], .agg #[.int .u64 0, .int .u64 0], .agg #[.int .u64 0, .int .u64 0], .int .u64 0, .int .u64 0, .int .u64 0], []⟩ 8 (by kernel_rfl) (by kernel_rfl) (by kernel_rfl) (by kernel_rfl))
    (by rw [show Try.f7.params = _ from Try.params7]; decide +kernel) (by kernel_rfl) Try.underlying4 rfl
    (fun ds hl => by
      rw [show Try.f7.params = _ from Try.params7] at hl
      match ds, hl with
      | [_, _, _, _, _, _], _ => rfl) rules_walk

set_option maxRecDepth 100000 in
theorem rules_over : Rows.wideRulesRow.holds Try.pinned (OpenSpec.ofChange Rows.wideRulesSpec) :=
  OpenClaim.holds_of_wide 7 Try.f7 rfl rfl rfl rfl rfl rfl rfl ⟨rfl, rfl, rfl, rfl, rfl⟩ rfl rfl rfl rfl rfl (by kernel_rfl) Try.func7 (by kernel_rfl)
    (of_decide_eq_true (by kernel_rfl)) (by unfold Func.isWrapper; first | (rw [if_pos (by decide +kernel)]; kernel_rfl) | (rw [if_neg (by decide +kernel)]; exact ⟨rfl, rfl⟩))
    (fun os started H enc _ => rules_lifted os started H enc)

/-- The given statement. -/
theorem rules_holds : Rows.WideRulesSaid := rules_over
#print axioms rules_holds
end Go.Proofs.Ytjidognjnlhlcaa
