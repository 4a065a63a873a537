/-
  What Read answers of bytes that are, have more than, or have less than those of a row.
-/
import Derived.Test.YtpjonhfphfkdiaaJoins07
namespace Go.Proofs.Ytpjonhfphfkdiaa
open Go.RowKit

theorem rowB_len : ∀ (fs : List Fd), (rowB fs).length = ((fs.map Fd.k).map wid).sum
  | [] => rfl
  | f :: fs => by rw [rowB_cons, List.length_append, rowB_len fs, f.bs_len]; simp
theorem rea_zero {ks bs : List Int} (hk : Byts ks) (hb : Byts bs) (h : reaE ks bs = 0) : rowE (reaF ks bs) = 0 ∧ rowB (reaF ks bs) = bs ∧ (reaF ks bs).map Fd.k = ks := by
  have h0 := h
  unfold reaE at h
  have hF : reaF ks bs = firF ks bs := by unfold reaF; rw [h0, if_pos rfl]
  rcases kinE_cases ks with q | q | q
  · cases hr : rd ks bs with
    | none => rw [(fir_none q hr).1] at h; simp at h
    | some p =>
      have R := rd_some hk hb (fs := p.1) (rest := p.2) hr
      obtain ⟨e1, e2, e3⟩ := fir_some q R
      rw [e1, if_pos rfl, e3] at h
      have hp : p.2 = [] := by
        rcases Decidable.em (p.2 = []) with z | z
        · exact z
        · rw [if_neg z] at h; omega
      rw [hF, e2]
      refine ⟨rowE_ok ?_ R.ok, ?_, R.k⟩
      · have := congrArg List.length R.k
        rw [List.length_map] at this
        have := (kinE_zero q).1
        omega
      · have := R.b
        rwa [hp, List.append_nil] at this
  · rw [(fir_bad q (by decide)).1] at h; simp at h
  · rw [(fir_bad q (by decide)).1] at h; simp at h
theorem rea_cases (ks bs : List Int) : reaE ks bs = 0 ∨ reaE ks bs = 4 ∨ reaE ks bs = 2 ∨ reaE ks bs = 12 := by
  unfold reaE
  rcases kinE_cases ks with q | q | q
  · cases hr : rd ks bs with
    | none => rw [(fir_none q hr).1]; simp
    | some p =>
      have e1 : firE ks bs = 0 := by unfold firE; rw [if_pos q, hr]
      rw [e1, if_pos rfl]
      split <;> simp
  · rw [(fir_bad q (by decide)).1]; simp
  · rw [(fir_bad q (by decide)).1]; simp
theorem rea_more {fs : List Fd} (h : rowE fs = 0) : reaE (fs.map Fd.k) (rowB fs ++ [0]) = 12 := by
  obtain ⟨e1, _, e3⟩ := fir_row (rest := [0]) h
  unfold reaE
  rw [e1, e3, if_pos rfl, if_neg (by simp)]
theorem kin_row {fs : List Fd} (h : rowE fs = 0) : kinE (fs.map Fd.k) = 0 := by
  obtain ⟨hl, ho⟩ := rowE_zero h
  exact kinE_ok (by rw [List.length_map]; exact hl) (fun k hk => by
    obtain ⟨f, hf, rfl⟩ := List.mem_map.1 hk
    have := ho f hf
    unfold Fd.ok at this
    simp only [Bool.and_eq_true] at this
    exact of_decide_eq_true this.1.1)
theorem rea_less {fs : List Fd} (h : rowE fs = 0) {bs : List Int} (hb : Byts bs) (hl : bs.length < (rowB fs).length) : reaE (fs.map Fd.k) bs = 12 := by
  have hr : rd (fs.map Fd.k) bs = none := by
    cases hr : rd (fs.map Fd.k) bs with
    | none => rfl
    | some p =>
      have R := rd_some (kinds_byts fs) hb (fs := p.1) (rest := p.2) hr
      have e1 := congrArg List.length R.b
      rw [List.length_append, rowB_len, R.k, ← rowB_len] at e1
      omega
  unfold reaE
  rw [(fir_none (kin_row h) hr).1]
  rfl

end Go.Proofs.Ytpjonhfphfkdiaa
