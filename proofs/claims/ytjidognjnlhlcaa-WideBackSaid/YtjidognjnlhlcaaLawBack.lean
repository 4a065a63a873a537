/-
  For any wide number and any divisor WideBack returns true and leaves its arguments as they were. Conditions: none.
-/
import Derived.Test.YtjidognjnlhlcaaBack
import Derived.Test.YtjidognjnlhlcaaOpen
namespace Go.Proofs.Ytjidognjnlhlcaa
open Go.ChangeShapes Go.WideShapes Go.ChangeAt Go.RowKit Go.Joins

theorem back_any (ah al d : Int) (w : World) (h1 : isU ah) (h2 : isU al) (h3 : isU d) : backCall ah al d w := by
  by_cases hd : d = 0
  · subst hd
    exact back_zero ah al w h1 h2
  · have hn := isW_of h1 h2
    obtain ⟨n, en⟩ : ∃ n, wN ah al = n := ⟨_, rfl⟩
    obtain ⟨q, eq⟩ : ∃ q, n / d = q := ⟨_, rfl⟩
    obtain ⟨r, er⟩ : ∃ r, n % d = r := ⟨_, rfl⟩
    rw [en] at hn
    have hd1 : 0 < d := by unfold isU at h3; omega
    have hq0 : 0 ≤ q := by rw [← eq]; unfold isW at hn; exact Int.ediv_nonneg hn.1 (by omega)
    have hqn : q ≤ n := by rw [← eq]; unfold isW at hn; exact Int.ediv_le_self d hn.1
    have hr0 : 0 ≤ r := by rw [← er]; exact Int.emod_nonneg n hd
    have hrd : r < d := by rw [← er]; exact Int.emod_lt_of_pos n hd1
    have hm : q * d + r = n := by rw [← eq, ← er, Int.mul_comm]; exact Int.mul_ediv_add_emod n d
    have hp0 : 0 ≤ q * d := Int.mul_nonneg hq0 (by omega)
    have hq : isW q := by unfold isW at *; omega
    have hp : isW (q * d) := by unfold isW at *; omega
    have hr : isU r := by unfold isU at *; omega
    have e1 : Hid (wN ah al / d = wN (wHi q) (wLo q)) := by refine Lib.hid ?_; rw [wN_parts, en]; exact eq
    have e2 : Hid (wN ah al % d = r) := by refine Lib.hid ?_; rw [en]; exact er
    have e3 : Hid (wN (wHi q) (wLo q) * d = wN (wHi (q * d)) (wLo (q * d))) := by refine Lib.hid ?_; rw [wN_parts, wN_parts]
    have e4 : Hid (wN (wHi (q * d)) (wLo (q * d)) + wN 0 r = wN ah al) := by refine Lib.hid ?_; rw [wN_parts, en]; unfold wN; omega
    by_cases hz : r = 0
    · subst hz
      refine back_even ah al d (wHi q) (wLo q) (wHi (q * d)) (wLo (q * d)) w h1 h2 h3 hd (isU_hi hq) (isU_lo q) (isU_hi hp) (isU_lo _) e1 e2 e3 e4 hr ?_
      refine Lib.hid ?_
      unfold upV
      rw [if_neg hd, en, if_pos er, eq, wN_parts]
    · have hd2 : 2 ≤ d := by omega
      have hq2 : q * 2 ≤ q * d := Int.mul_le_mul_of_nonneg_left hd2 hq0
      have hu : isW (q + 1) := by unfold isW at *; omega
      refine back_odd ah al d (wHi q) (wLo q) (wHi (q * d)) (wLo (q * d)) r (wHi (q + 1)) (wLo (q + 1)) w h1 h2 h3 hd (isU_hi hq) (isU_lo q) (isU_hi hp) (isU_lo _) e1 e2 e3 e4 hr (isU_hi hu) (isU_lo _) ?_ ?_ hz hrd
      · refine Lib.hid ?_
        unfold upV
        rw [if_neg hd, en, if_neg (by rw [er]; exact hz), eq, wN_parts]
      · refine Lib.hid ?_
        rw [wN_parts, wN_parts]
        rfl

theorem back_walk : LawWalk Try.prog 6 Try.f6 := by
  intro H enc W base args ds ps hval hA _ _
  rw [Try.params6] at hA hval
  obtain ⟨v0, v1, d0, d1, p0, p1, rfl, rfl, rfl, h0, h1⟩ := trodAll_two hA
  obtain ⟨x, y, rfl, hx, hy⟩ := open_wide (hval 0 _ v0 rfl rfl) h0
  obtain ⟨d, rfl, hd⟩ := open_u64 (hval 1 _ v1 rfl rfl) h1
  exact back_any x y d W hx hy hd

set_option maxRecDepth 100000 in
theorem back_lifted (os : Os) (started : os.Started) (H : Type) (enc : TypeId × Value → H) :
    ReturnsInHanded {} Try.checked os 6 .any (Rows.wideBackSpec.pre6 enc Try.prog Try.f6 Rows.wideBackRow.domain false) (Rows.wideBackSpec.post enc Try.prog Try.f6 false true false false) :=
  law_lifted (C := Try.checked) (s := Rows.wideBackSpec) (conds := Rows.wideBackRow.domain) (tb := 4) own laidOut started (by kernel_rfl) Try.func6
    (ChangeSpec.witness6 (enc := enc) (C := Try.checked) false ⟨#[], #[.agg #[.int .u64 0, .int .u64 0], .int .u64 0], []⟩ 8 (by kernel_rfl) (by kernel_rfl) (by kernel_rfl) (by kernel_rfl))
    (by rw [show Try.f6.params = _ from Try.params6]; decide +kernel) (by kernel_rfl) Try.underlying4 rfl
    (fun ds hl => by
      rw [show Try.f6.params = _ from Try.params6] at hl
      match ds, hl with
      | [_, _], _ => rfl) back_walk

set_option maxRecDepth 100000 in
theorem back_over : Rows.wideBackRow.holds Try.pinned (OpenSpec.ofChange Rows.wideBackSpec) :=
  OpenClaim.holds_of_wide 6 Try.f6 rfl rfl rfl rfl rfl rfl rfl ⟨rfl, rfl, rfl, rfl, rfl⟩ rfl rfl rfl rfl rfl (by kernel_rfl) Try.func6 (by kernel_rfl)
    (of_decide_eq_true (by kernel_rfl)) (by unfold Func.isWrapper; first | (rw [if_pos (by decide +kernel)]; kernel_rfl) | (rw [if_neg (by decide +kernel)]; exact ⟨rfl, rfl⟩))
    (fun os started H enc _ => back_lifted os started H enc)

/-- The given statement. -/
theorem back_holds : Rows.WideBackSaid := back_over
#print axioms back_holds
end Go.Proofs.Ytjidognjnlhlcaa
