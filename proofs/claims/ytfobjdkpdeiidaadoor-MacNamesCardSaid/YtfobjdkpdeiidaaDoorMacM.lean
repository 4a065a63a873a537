/-
  Layer 6 without memory: a key's block, pads, the inner and the outer sum.
-/
import Derived.Test.YtfobjdkpdeiidaaDoorShaE
import Derived.Laws.BitsAllLaws
import Derived.Laws.CopyOwn
namespace Go.Proofs.YtfobjdkpdeiidaaDoor
open Go.RowKit

theorem shaOf_len (b : List Int) : (shaOf b).length = 32 := by unfold shaOf; rw [dig_len]
theorem shaOf_bytes (b : List Int) : bytesL (shaOf b) := by unfold shaOf; exact dig_bytes _
theorem zeros_bytes (n : Nat) : bytesL (List.replicate n 0) := bytesL.of_all fun x hx => by
  obtain ⟨_, rfl⟩ := List.mem_replicate.1 hx
  omega
/-- A key as it goes into its block; its block. -/
def key64 (K : List Int) : List Int := if 64 < K.length then shaOf K else K
def blk (K : List Int) : List Int := key64 K ++ List.replicate (64 - (key64 K).length) 0
theorem key64_short {K : List Int} (h : K.length ≤ 64) : key64 K = K := by unfold key64; rw [if_neg (by omega)]
theorem key64_long {K : List Int} (h : 64 < K.length) : key64 K = shaOf K := by unfold key64; rw [if_pos h]
theorem key64_len (K : List Int) : (key64 K).length ≤ 64 := by
  unfold key64
  split
  · rw [shaOf_len]; omega
  · omega
theorem key64_bytes {K : List Int} (h : bytesL K) : bytesL (key64 K) := by
  unfold key64
  split
  · exact shaOf_bytes _
  · exact h
theorem blk_len (K : List Int) : (blk K).length = 64 := by
  have := key64_len K
  unfold blk
  rw [List.length_append, List.length_replicate]
  omega
theorem blk_bytes {K : List Int} (h : bytesL K) : bytesL (blk K) := (key64_bytes h).append (zeros_bytes _)
theorem blk_short {K : List Int} (h : K.length ≤ 64) : blk K = K ++ List.replicate (64 - K.length) 0 := by unfold blk; rw [key64_short h]
theorem blk_long {K D : List Int} (h : 64 < K.length) (hD : shaOf K = D) : blk K = D ++ List.replicate (64 - D.length) 0 := by unfold blk; rw [key64_long h, hD]
theorem blk_zeros {K : List Int} {z : Nat} (h : K.length + z ≤ 64) : blk (K ++ List.replicate z 0) = blk K := by
  rw [blk_short (by rw [List.length_append, List.length_replicate]; exact h), blk_short (by omega), List.append_assoc, List.replicate_append_replicate, List.length_append, List.length_replicate]
  congr 2
  omega
theorem blk_digest {K : List Int} (h : 64 < K.length) : blk (shaOf K) = blk K := by
  rw [blk_long h rfl, blk_short (by rw [shaOf_len]; omega)]
/-- Each byte exclusive or a number. -/
def mixL (y : Int) (l : List Int) : List Int := l.map fun x => bits .xor .u8 x y
theorem mixL_len (y : Int) (l : List Int) : (mixL y l).length = l.length := by simp [mixL]
theorem mixL_nth (y : Int) (l : List Int) (k : Nat) (h : k < l.length) : nth (mixL y l) k = bits .xor .u8 (nth l k) y := by
  unfold nth mixL
  rw [List.getD_eq_getElem?_getD, List.getElem?_map, List.getElem?_eq_getElem h, List.getD_eq_getElem?_getD, List.getElem?_eq_getElem h]
  rfl
def mixN (y : Nat) (l : List Int) : List Int := l.map fun x => ((x.toNat ^^^ y : Nat) : Int)
theorem mixL_nat {y : Nat} {l : List Int} (hy : y < 256) (h : bytesL l) : mixL (y : Int) l = mixN y l := by
  unfold mixL mixN
  refine List.map_congr_left fun x hx => ?_
  obtain ⟨i, hi, rfl⟩ := List.getElem_of_mem hx
  have := h i hi
  unfold nth at this
  rw [List.getD_eq_getElem?_getD, List.getElem?_eq_getElem hi, Option.getD_some] at this
  rw [u8_xor _ _ this.1 this.2 (by omega) (by omega), Int.toNat_natCast]
theorem mixL_bytes {y : Nat} {l : List Int} (hy : y < 256) (h : bytesL l) : bytesL (mixL (y : Int) l) := by
  rw [mixL_nat hy h]
  refine bytesL.of_all fun x hx => ?_
  unfold mixN at hx
  obtain ⟨z, hz, rfl⟩ := List.mem_map.1 hx
  obtain ⟨i, hi, rfl⟩ := List.getElem_of_mem hz
  have := h i hi
  unfold nth at this
  rw [List.getD_eq_getElem?_getD, List.getElem?_eq_getElem hi, Option.getD_some] at this
  have h1 : (l[i]).toNat < 2 ^ 8 := by omega
  have h2 : y < 2 ^ 8 := by omega
  have := Nat.xor_lt_two_pow h1 h2
  omega
def padI (K : List Int) : List Int := mixL 54 (blk K)
def padO (K : List Int) : List Int := mixL 92 (blk K)
theorem padI_len (K : List Int) : (padI K).length = 64 := by unfold padI; rw [mixL_len, blk_len]
theorem padO_len (K : List Int) : (padO K).length = 64 := by unfold padO; rw [mixL_len, blk_len]
theorem padI_bytes {K : List Int} (h : bytesL K) : bytesL (padI K) := mixL_bytes (y := 54) (by omega) (blk_bytes h)
theorem padO_bytes {K : List Int} (h : bytesL K) : bytesL (padO K) := mixL_bytes (y := 92) (by omega) (blk_bytes h)
def innerL (K b : List Int) : List Int := shaOf (padI K ++ b)
def outerL (K d : List Int) : List Int := shaOf (padO K ++ d)
def tagL (K b : List Int) : List Int := outerL K (innerL K b)
theorem tagL_len (K b : List Int) : (tagL K b).length = 32 := shaOf_len _
theorem pads_differ (x : Int) (h0 : 0 ≤ x) (h : x < 256) : bits .xor .u8 (bits .xor .u8 x 54) (bits .xor .u8 x 92) = 106 := by
  obtain ⟨n, rfl⟩ := Int.eq_ofNat_of_zero_le h0
  have hn : n < 256 := by omega
  have h1 : n ^^^ 54 < 256 := Nat.xor_lt_two_pow (n := 8) (by omega) (by omega)
  have h2 : n ^^^ 92 < 256 := Nat.xor_lt_two_pow (n := 8) (by omega) (by omega)
  have e1 := u8_xor_nat n 54 hn (by omega)
  have e2 := u8_xor_nat n 92 hn (by omega)
  have e3 := u8_xor_nat _ _ h1 h2
  have e4 : (n ^^^ 54) ^^^ (n ^^^ 92) = 106 := by
    rw [Nat.xor_comm n 54, Nat.xor_assoc, ← Nat.xor_assoc n n 92, Nat.xor_self, Nat.zero_xor]
    rfl
  rw [e4] at e3
  have f1 : bits .xor .u8 (n : Int) 54 = ((n ^^^ 54 : Nat) : Int) := e1
  have f2 : bits .xor .u8 (n : Int) 92 = ((n ^^^ 92 : Nat) : Int) := e2
  rw [f1, f2, e3]
  rfl
theorem nth_padI (K : List Int) (k : Nat) (hk : k < 64) : nth (padI K) k = bits .xor .u8 (nth (blk K) k) 54 := mixL_nth _ _ _ (by rw [blk_len]; exact hk)
theorem nth_padO (K : List Int) (k : Nat) (hk : k < 64) : nth (padO K) k = bits .xor .u8 (nth (blk K) k) 92 := mixL_nth _ _ _ (by rw [blk_len]; exact hk)
theorem pads_xor {K : List Int} (hK : bytesL K) (k : Nat) (hk : k < 64) : bits .xor .u8 (nth (padI K) k) (nth (padO K) k) = 106 := by
  rw [nth_padI K k hk, nth_padO K k hk]
  have := blk_bytes hK k (by rw [blk_len]; exact hk)
  exact pads_differ _ this.1 this.2
/-- The first k numbers mixed. -/
def mixS (y : Int) (l : List Int) (k : Nat) : List Int := mixL y (l.take k) ++ l.drop k
theorem mixS_zero (y : Int) (l : List Int) : mixS y l 0 = l := by simp [mixS, mixL]
theorem mixS_all (y : Int) (l : List Int) (k : Nat) (h : l.length ≤ k) : mixS y l k = mixL y l := by
  unfold mixS
  rw [List.take_of_length_le h, List.drop_eq_nil_of_le h, List.append_nil]
theorem mixS_len (y : Int) (l : List Int) (k : Nat) : (mixS y l k).length = l.length := by
  unfold mixS
  rw [List.length_append, mixL_len, ← List.length_append, List.take_append_drop]
theorem mixS_nth (y : Int) (l : List Int) (k : Nat) (h : k < l.length) : nth (mixS y l k) k = nth l k := by
  have hl : (mixL y (l.take k)).length = k := by rw [mixL_len, List.length_take]; omega
  unfold nth mixS
  rw [List.getD_eq_getElem?_getD, List.getElem?_append_right (by omega), hl, Nat.sub_self, List.getElem?_drop, Nat.add_zero, List.getD_eq_getElem?_getD]
theorem mixS_succ (y : Int) (l : List Int) (k : Nat) (h : k < l.length) : (mixS y l k).set k (bits .xor .u8 (nth l k) y) = mixS y l (k + 1) := by
  have hl : (mixL y (l.take k)).length = k := by rw [mixL_len, List.length_take]; omega
  unfold mixS
  rw [List.set_append_right _ _ (by omega), hl, Nat.sub_self, List.drop_eq_getElem_cons h, List.set_cons_zero, List.take_succ_eq_append_getElem h]
  unfold mixL
  rw [List.map_append, List.append_assoc]
  have : nth l k = l[k] := by
    unfold nth
    rw [List.getD_eq_getElem?_getD, List.getElem?_eq_getElem h, Option.getD_some]
  rw [this]
  rfl
theorem splice_block {α : Type} (f : Int → α) (X : List Int) : splice ((List.replicate 64 0).map f) 0 (X.map f) = (X ++ List.replicate (64 - X.length) 0).map f := by
  unfold splice
  rw [List.take_zero, List.nil_append, Nat.zero_add, List.length_map, List.map_append, ← List.map_drop, List.drop_replicate]

end Go.Proofs.YtfobjdkpdeiidaaDoor
