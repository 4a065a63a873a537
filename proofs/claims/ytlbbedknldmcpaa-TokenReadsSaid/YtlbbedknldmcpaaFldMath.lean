/-
  Numbers in bytes, the highest byte first; fields, rows and their bytes: plain mathematics.
-/
import Derived.Test.YtlbbedknldmcpaaSlices
namespace Go.Proofs.Ytlbbedknldmcpaa

/-- All are bytes. -/
def Byts (xs : List Int) : Prop := ∀ x ∈ xs, 0 ≤ x ∧ x ≤ 255
theorem Byts.nil : Byts [] := fun x h => by cases h
theorem Byts.append {xs ys : List Int} (h1 : Byts xs) (h2 : Byts ys) : Byts (xs ++ ys) := fun x h => by
  rcases List.mem_append.1 h with q | q
  · exact h1 x q
  · exact h2 x q
theorem Byts.left {xs ys : List Int} (h : Byts (xs ++ ys)) : Byts xs := fun x q => h x (List.mem_append_left _ q)
theorem Byts.right {xs ys : List Int} (h : Byts (xs ++ ys)) : Byts ys := fun x q => h x (List.mem_append_right _ q)
theorem Byts.take {xs : List Int} (h : Byts xs) (n : Nat) : Byts (xs.take n) := fun x q => h x (List.mem_of_mem_take q)
theorem Byts.drop {xs : List Int} (h : Byts xs) (n : Nat) : Byts (xs.drop n) := fun x q => h x (List.mem_of_mem_drop q)

/-- The lowest w bytes of a number, the highest first. -/
def be : Nat → Int → List Int
  | 0, _ => []
  | w + 1, n => be w (n / 256) ++ [n % 256]
theorem be_len : ∀ (w : Nat) (n : Int), (be w n).length = w
  | 0, _ => rfl
  | w + 1, n => by unfold be; rw [List.length_append, be_len w]; rfl
theorem be_byts : ∀ (w : Nat) (n : Int), Byts (be w n)
  | 0, _ => Byts.nil
  | w + 1, n => by
    unfold be
    refine (be_byts w _).append fun x h => ?_
    simp at h
    omega
/-- The number that bytes are. -/
def num (bs : List Int) : Int := bs.foldl (fun n x => 256 * n + x) 0
theorem num_snoc (bs : List Int) (x : Int) : num (bs ++ [x]) = 256 * num bs + x := by unfold num; rw [List.foldl_append]; rfl
theorem snoc_of {bs : List Int} {n : Nat} (h : bs.length = n + 1) : ∃ cs x, bs = cs ++ [x] ∧ cs.length = n := by
  have hne : bs ≠ [] := fun q => by rw [q] at h; cases h
  refine ⟨bs.dropLast, bs.getLast hne, (List.dropLast_concat_getLast hne).symm, ?_⟩
  rw [List.length_dropLast]; omega
theorem num_bound : ∀ (n : Nat) (bs : List Int), bs.length = n → Byts bs → 0 ≤ num bs ∧ num bs < 256 ^ n
  | 0, bs, h, _ => by
    obtain rfl := List.eq_nil_of_length_eq_zero h
    exact ⟨by decide, by decide⟩
  | n + 1, bs, h, hb => by
    obtain ⟨cs, x, rfl, hl⟩ := snoc_of h
    have h1 := num_bound n cs hl hb.left
    have h2 := hb x (by simp)
    rw [num_snoc, Int.pow_succ]
    omega
theorem be_num : ∀ (n : Nat) (bs : List Int), bs.length = n → Byts bs → be n (num bs) = bs
  | 0, bs, h, _ => by
    obtain rfl := List.eq_nil_of_length_eq_zero h
    rfl
  | n + 1, bs, h, hb => by
    obtain ⟨cs, x, rfl, hl⟩ := snoc_of h
    have h2 := hb x (by simp)
    unfold be
    rw [num_snoc]
    have e1 : (256 * num cs + x) / 256 = num cs := by omega
    have e2 : (256 * num cs + x) % 256 = x := by omega
    rw [e1, e2, be_num n cs hl hb.left]
theorem num_be : ∀ (w : Nat) (n : Int), 0 ≤ n → n < 256 ^ w → num (be w n) = n
  | 0, n, h0, h1 => by
    have e : (256 : Int) ^ 0 = 1 := rfl
    rw [e] at h1
    obtain rfl : n = 0 := by omega
    rfl
  | w + 1, n, h0, h1 => by
    rw [Int.pow_succ] at h1
    unfold be
    rw [num_snoc, num_be w (n / 256) (by omega) (by omega)]
    omega
theorem num_be_mod : ∀ (w : Nat) (n : Int), 0 ≤ n → num (be w n) = n % 256 ^ w
  | 0, n, h0 => by
    have e : (256 : Int) ^ 0 = 1 := rfl
    rw [e, Int.emod_one]
    rfl
  | w + 1, n, h0 => by
    unfold be
    rw [num_snoc, num_be_mod w (n / 256) (by omega), Int.pow_succ]
    have hp : (0 : Int) < 256 ^ w := Int.pow_pos (by decide)
    generalize (256 : Int) ^ w = m at hp ⊢
    have h1 := Int.mul_ediv_add_emod (n / 256) m
    have h2 := Int.emod_nonneg (n / 256) (by omega : m ≠ 0)
    have h3 := Int.emod_lt_of_pos (n / 256) hp
    generalize hq : (n / 256) / m = q at h1
    generalize hr : (n / 256) % m = r at h1 h2 h3 ⊢
    have e : n = (256 * r + n % 256) + (m * 256) * q := by
      have : m * 256 * q = 256 * (m * q) := by rw [Int.mul_comm m 256, Int.mul_assoc]
      omega
    rw [e, Int.add_mul_emod_self_left]
    have : (256 * r + n % 256 + m * 256 * q) % 256 = n % 256 := by rw [← e]
    rw [this]
    exact (Int.emod_eq_of_lt (by omega) (by omega)).symm
/-- The byte at an index. -/
theorem be_nth : ∀ (w : Nat) (n : Int) (i : Nat), 0 ≤ n → i < w → nth (be w n) (w - 1 - i) = n / 256 ^ i % 256
  | 0, _, _, _, h => by omega
  | w + 1, n, i, h0, h => by
    unfold be
    rcases Nat.eq_zero_or_pos i with rfl | hi
    · rw [nth_append_right (by rw [be_len]; omega), be_len]
      have e : w + 1 - 1 - 0 - w = 0 := by omega
      rw [e]
      show n % 256 = n / 1 % 256
      rw [Int.ediv_one]
    · rw [nth_append_left (by rw [be_len]; omega)]
      have e : w + 1 - 1 - i = w - 1 - (i - 1) := by omega
      rw [e, be_nth w (n / 256) (i - 1) (by omega) (by omega)]
      obtain ⟨j, rfl⟩ : ∃ j, i = j + 1 := ⟨i - 1, by omega⟩
      rw [Nat.add_sub_cancel, Int.pow_succ, Int.mul_comm, Int.ediv_ediv_of_nonneg (by decide)]

/-- A kind's width: 0 where there is none. -/
def wid (k : Int) : Nat := if k = 1 ∨ k = 2 ∨ k = 7 then 1 else if k = 3 then 2 else if k = 4 then 4 else if k = 5 then 8 else if k = 6 then 32 else 0
/-- The greatest number. -/
def gre (k : Int) : Int := if k = 1 then 1 else if k = 2 then 255 else if k = 3 then 65535 else if k = 4 then 4294967295 else if k = 5 then 18446744073709551615 else 0
/-- A zero digest. -/
def zeroD : List Int := List.replicate 32 0
/-- A field, whatever it is: its numbers as they are held. -/
structure Fd where
  k : Int
  n : Int
  d : List Int
  hk : 0 ≤ k ∧ k ≤ 255
  hn : 0 ≤ n ∧ n ≤ 18446744073709551615
  hl : d.length = 32
  hd : Byts d
theorem Fd.ext' {f g : Fd} (h1 : f.k = g.k) (h2 : f.n = g.n) (h3 : f.d = g.d) : f = g := by
  cases f; cases g; simp_all
def Fd.zero : Fd := ⟨0, 0, zeroD, by decide, by decide, by decide, fun x h => by have := List.eq_of_mem_replicate h; omega⟩
/-- A field with a number alone. -/
def Fd.num (k n : Int) (hk : 0 ≤ k ∧ k ≤ 255) (hn : 0 ≤ n ∧ n ≤ 18446744073709551615) : Fd := ⟨k, n, zeroD, hk, hn, Fd.zero.hl, Fd.zero.hd⟩
/-- Whether it is valid. -/
def Fd.ok (f : Fd) : Bool := decide (wid f.k ≠ 0) && decide (f.n ≤ gre f.k) && (decide (f.k = 6) || decide (f.d = zeroD))
def Fd.err (f : Fd) : Int := if f.ok then 0 else 8
/-- Its bytes. -/
def Fd.bs (f : Fd) : List Int := if f.k = 6 then f.d else be (wid f.k) f.n
theorem wid_six {k : Int} (h : k = 6) : wid k = 32 := by subst h; rfl
theorem Fd.bs_len (f : Fd) : f.bs.length = wid f.k := by
  unfold Fd.bs
  split
  · rename_i h
    rw [f.hl, wid_six h]
  · exact be_len _ _
theorem Fd.bs_byts (f : Fd) : Byts f.bs := by
  unfold Fd.bs
  split
  · exact f.hd
  · exact be_byts _ _
theorem wid_cases (k : Int) : wid k = 0 ∨ wid k = 1 ∨ wid k = 2 ∨ wid k = 4 ∨ wid k = 8 ∨ wid k = 32 := by unfold wid; (repeat' split) <;> simp
theorem wid_le (k : Int) : wid k ≤ 32 := by have := wid_cases k; omega
/-- The field that bytes of a kind's width are. -/
def fldN (k : Int) (bs : List Int) : Int := if k = 6 then 0 else Go.Proofs.Ytlbbedknldmcpaa.num bs
def fldD (k : Int) (bs : List Int) : List Int := if k = 6 then bs else zeroD
open Classical in
noncomputable def fld (k : Int) (bs : List Int) : Fd :=
  if h : (0 ≤ k ∧ k ≤ 255) ∧ (0 ≤ fldN k bs ∧ fldN k bs ≤ 18446744073709551615) ∧ (fldD k bs).length = 32 ∧ Byts (fldD k bs) then ⟨k, fldN k bs, fldD k bs, h.1, h.2.1, h.2.2.1, h.2.2.2⟩ else Fd.zero
theorem pow_le8 {n : Nat} (h : n ≤ 8) : (256 : Int) ^ n ≤ 18446744073709551616 := by
  have : n = 0 ∨ n = 1 ∨ n = 2 ∨ n = 3 ∨ n = 4 ∨ n = 5 ∨ n = 6 ∨ n = 7 ∨ n = 8 := by omega
  rcases this with q | q | q | q | q | q | q | q | q <;> subst q <;> decide
theorem fld_ok {k : Int} {bs : List Int} (hk : 0 ≤ k ∧ k ≤ 255) (hl : bs.length = wid k) (hb : Byts bs) :
    (fld k bs).k = k ∧ (fld k bs).n = fldN k bs ∧ (fld k bs).d = fldD k bs := by
  have h : (0 ≤ k ∧ k ≤ 255) ∧ (0 ≤ fldN k bs ∧ fldN k bs ≤ 18446744073709551615) ∧ (fldD k bs).length = 32 ∧ Byts (fldD k bs) := by
    refine ⟨hk, ?_⟩
    by_cases h6 : k = 6
    · subst h6
      exact ⟨⟨show (0 : Int) ≤ 0 by decide, show (0 : Int) ≤ 18446744073709551615 by decide⟩, hl, hb⟩
    · have hw : wid k ≤ 8 := by
        have : k = 6 ∨ wid k ≤ 8 := by unfold wid; (repeat' split) <;> simp_all
        omega
      unfold fldN fldD
      rw [if_neg h6, if_neg h6]
      have := num_bound _ bs rfl hb
      have := pow_le8 (n := bs.length) (by omega)
      exact ⟨by omega, Fd.zero.hl, Fd.zero.hd⟩
  unfold fld
  rw [dif_pos h]
  exact ⟨rfl, rfl, rfl⟩
/-- Written and read: a valid field. -/
theorem gre_lt {k : Int} (hw : k ≠ 6) (hz : wid k ≠ 0) : gre k < 256 ^ wid k := by
  have h : k = 1 ∨ k = 2 ∨ k = 3 ∨ k = 4 ∨ k = 5 ∨ k = 7 := by
    have : k = 6 ∨ wid k = 0 ∨ k = 1 ∨ k = 2 ∨ k = 3 ∨ k = 4 ∨ k = 5 ∨ k = 7 := by unfold wid; (repeat' split) <;> omega
    omega
  rcases h with h | h | h | h | h | h <;> subst h <;> decide
theorem Fd.back {f : Fd} (h : f.ok = true) : fld f.k f.bs = f := by
  obtain ⟨h1, h2, h3⟩ := fld_ok f.hk f.bs_len f.bs_byts
  unfold Fd.ok at h
  simp only [Bool.and_eq_true, Bool.or_eq_true, decide_eq_true_eq] at h
  refine Fd.ext' h1 (h2.trans ?_) (h3.trans ?_)
  · unfold fldN Fd.bs
    split
    · rename_i h6
      have : gre f.k = 0 := by rw [h6]; rfl
      have := f.hn
      omega
    · rename_i h6
      exact num_be _ _ f.hn.1 (by have := gre_lt h6 h.1.1; omega)
  · unfold fldD Fd.bs
    split
    · rfl
    · rcases h.2 with q | q
      · contradiction
      · exact q.symm
theorem fld_bs {k : Int} {bs : List Int} (hk : 0 ≤ k ∧ k ≤ 255) (hl : bs.length = wid k) (hb : Byts bs) : (fld k bs).bs = bs := by
  obtain ⟨h1, h2, h3⟩ := fld_ok hk hl hb
  unfold Fd.bs
  rw [h1, h2, h3]
  unfold fldN fldD
  split
  · rfl
  · exact be_num _ _ hl hb

end Go.Proofs.Ytlbbedknldmcpaa
