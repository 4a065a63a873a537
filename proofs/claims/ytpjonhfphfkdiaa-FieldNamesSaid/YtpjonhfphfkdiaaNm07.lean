/-
  FieldNames: the rows of the examples.
-/
import Derived.Test.YtpjonhfphfkdiaaRea07
namespace Go.Proofs.Ytpjonhfphfkdiaa
open Go.RowKit

def digA : List Int := 1 :: List.replicate 31 0
def digB : List Int := List.replicate 31 0 ++ [9]
theorem byts_digA : Byts digA := by show ∀ x ∈ digA, _; decide
theorem byts_digB : Byts digB := by show ∀ x ∈ digB, _; decide
def badF : List Fd := [.num 0 0 (by decide) (by decide), .num 8 0 (by decide) (by decide), .num 1 2 (by decide) (by decide), .num 2 256 (by decide) (by decide), .num 3 65536 (by decide) (by decide), .num 4 4294967296 (by decide) (by decide), .num 6 1 (by decide) (by decide), .num 7 1 (by decide) (by decide), ⟨5, 0, digA, by decide, by decide, by decide, byts_digA⟩, ⟨7, 0, digA, by decide, by decide, by decide, byts_digA⟩]
def fineF : List Fd := [.num 2 255 (by decide) (by decide), .num 3 65535 (by decide) (by decide), .num 4 4294967295 (by decide) (by decide), .num 5 18446744073709551615 (by decide) (by decide), ⟨6, 0, digB, by decide, by decide, by decide, byts_digB⟩, .num 7 0 (by decide) (by decide)]
theorem badF_bad : ∀ f ∈ badF, f.ok = false := by decide
theorem fineF_e : rowE fineF = 0 := by decide
theorem fineF_l : (rowB fineF).length = 48 := by rw [rowB_len]; rfl
def manyK (n : Nat) : List Int := List.replicate n 7
def zeroF (n : Nat) : List Fd := List.replicate n (.num 7 0 (by decide) (by decide))
theorem zeroF_k (n : Nat) : (zeroF n).map Fd.k = manyK n := by unfold zeroF manyK; rw [List.map_replicate]; rfl
theorem zeroF_b : ∀ n : Nat, rowB (zeroF n) = List.replicate n 0
  | 0 => rfl
  | n + 1 => by
    have := zeroF_b n
    unfold zeroF at this ⊢
    rw [List.replicate_succ, rowB_cons, this, List.replicate_succ]
    rfl
theorem zeroF_e : rowE (zeroF 40) = 0 := by decide
theorem none_e : rowE [] = 0 := by decide
theorem manyK_succ (n : Nat) : manyK (n + 1) = manyK n ++ [7] := List.replicate_succ'
theorem manyK_len (n : Nat) : (manyK n).length = n := List.length_replicate
theorem manyK_take : (manyK 41).take 40 = manyK 40 := by decide
theorem manyK_byts (n : Nat) : Byts (manyK n) := fun x h => by have := List.eq_of_mem_replicate h; omega
theorem zeros_byts (n : Nat) : Byts (List.replicate n 0) := fun x h => by have := List.eq_of_mem_replicate h; omega
theorem r_many : reaE (manyK 41) [] = 4 := by
  have h : kinE (manyK 41) = 4 := kinE_many (by decide)
  unfold reaE
  rw [(fir_bad h (by decide)).1]
  rfl
theorem r_39 : reaE (manyK 40) (List.replicate 39 0) = 12 := by
  rw [← zeroF_k]
  exact rea_less zeroF_e (zeros_byts _) (by rw [zeroF_b]; decide)
theorem r_40 : reaE (manyK 40) (List.replicate 40 0) = 0 ∧ (reaF (manyK 40) (List.replicate 40 0)).length = 40 := by
  have h := rea_row zeroF_e
  rw [zeroF_k, zeroF_b] at h
  exact ⟨h.1, by rw [h.2]; rfl⟩
theorem r_k0 : reaE [0] [] = 2 := by
  have h : kinE [0] = 2 := kinE_bad (by decide) (k := 0) (by simp) rfl
  unfold reaE
  rw [(fir_bad h (by decide)).1]
  rfl
theorem r_k8 : reaE [7, 8] [] = 2 := by
  have h : kinE [7, 8] = 2 := kinE_bad (by decide) (k := 8) (by simp) rfl
  unfold reaE
  rw [(fir_bad h (by decide)).1]
  rfl
theorem r_left : reaE [] [0] = 12 := rea_more none_e
theorem r_nil : reaE [] [] = 0 ∧ (reaF [] []).length = 0 := by
  have h := rea_row none_e
  exact ⟨h.1, by rw [show reaF [] [] = [] from h.2]; rfl⟩
theorem f_one : firE [2] [1, 2, 3] = 0 ∧ firR [2] [1, 2, 3] = [2, 3] := by
  have h := fir_row (fs := [Fd.num 2 1 (by decide) (by decide)]) (rest := [2, 3]) (by decide)
  have e : rowB [Fd.num 2 1 (by decide) (by decide)] ++ [2, 3] = [1, 2, 3] := by decide
  rw [e] at h
  exact ⟨h.1, h.2.2⟩
theorem f_less : firE [5] (List.replicate 7 0) = 12 := by
  have hk : kinE [5] = 0 := kinE_ok (by decide) (fun k hk => by simp at hk; rw [hk]; decide)
  exact (fir_none hk (rd_none (ks := []) (ks' := []) (Rd.nil _) (Or.inl (by decide)))).1
/-- The kinds' widths. -/
def widL : List Int := [1, 1, 2, 4, 8, 32, 1]
theorem widL_at {j : Nat} (h : j < 7) : nth widL j = ((wid ((j : Int) + 1) : Nat) : Int) ∧ widE ((j : Int) + 1) = 0 := by
  have : j = 0 ∨ j = 1 ∨ j = 2 ∨ j = 3 ∨ j = 4 ∨ j = 5 ∨ j = 6 := by omega
  rcases this with q | q | q | q | q | q | q <;> subst q <;> exact ⟨by decide, by decide⟩
/-- A row of 41 zero fields. -/
theorem made_rep (f : Fd) (n : Nat) : madeCells f.v.toArray (n * 34) = (flatR LF (List.replicate n f)).toArray := by
  have hl : (flatR LF (List.replicate n f)).length = n * 34 := by rw [flatR_len, List.length_replicate]; rfl
  have hv := f.v_len
  apply Array.ext
  · rw [size_madeCells, List.size_toArray, hl]
  · intro i h1 h2
    rw [size_madeCells] at h1
    have hd : i / 34 < n := by omega
    have hm : i % 34 < 34 := by omega
    have e1 : (f.v)[i % 34]? = some ((f.v)[i % 34]'(by omega)) := List.getElem?_eq_getElem (by omega)
    have e2 := flatR_at (L := LF) (xs := List.replicate n f) (i := i / 34) (j := i % 34) (x := f) (by rw [List.getElem?_replicate, if_pos hd]) e1
    have e3 : i / 34 * LF.s + i % 34 = i := by show i / 34 * 34 + i % 34 = i; omega
    rw [e3] at e2
    have e4 : ((flatR LF (List.replicate n f)).toArray)[i]? = some ((f.v)[i % 34]'(by omega)) := by rw [List.getElem?_toArray]; exact e2
    rw [Array.getElem?_eq_getElem h2, Option.some.injEq] at e4
    rw [e4]
    simp [madeCells, hv, e1]

end Go.Proofs.Ytpjonhfphfkdiaa
