/-
  The statements' helpers of layer 6: known tags, what a tag begins and ends with, the chapter's examples.
-/
import Derived.Test.YtfobjdkpdeiidaaDoorMacT
import Derived.Test.YtfobjdkpdeiidaaDoorMacD
import Derived.Test.YtfobjdkpdeiidaaDoorShaEval
import Derived.Lib.SmallJoins
namespace Go.Proofs.YtfobjdkpdeiidaaDoor
open Go.RowKit

def tagIs (K b : List Int) (p q r s t : Int) : Prop := nth (tagL K b) 0 = p ∧ nth (tagL K b) 1 = q ∧ nth (tagL K b) 2 = r ∧ nth (tagL K b) 3 = s ∧ nth (tagL K b) 31 = t
theorem getD_words (l : List UInt32) (j : Nat) : un (l.getD j 0) = (((l.map UInt32.toNat).getD j 0 : Nat) : Int) := by
  unfold un
  rw [List.getD_eq_getElem?_getD, List.getD_eq_getElem?_getD, List.getElem?_map]
  cases l[j]? <;> rfl
def digW (ws : List Nat) : List Int := (List.range 32).map fun i => ((ws.getD (i / 4) 0 : Nat) : Int) / 2 ^ (24 - i % 4 * 8) % 256
theorem dig_words {h : W8} {ws : List Nat} (hw : h.l.map UInt32.toNat = ws) : dig h = digW ws := by
  unfold dig digW
  refine List.map_congr_left fun i _ => ?_
  unfold digB
  rw [getD_words, hw]
theorem sha_lit {b : List Int} (n m : Nat) (ws : List Nat) {D P : List Int} (hb : b.length = m) (hP : padL m = P) (hl : (b ++ P).length / 64 = n) (hw : (aftF n first (b ++ P)).l.map UInt32.toNat = ws) (hD : digW ws = D) : shaOf b = D := by
  unfold shaOf
  rw [hb, hP, ← hD]
  exact dig_words (after_of hl hw)
theorem padI_lit {K B P : List Int} (hK : bytesL K) (hB : blk K = B) (h : mixN 54 B = P) : padI K = P := by
  unfold padI
  rw [show (54 : Int) = ((54 : Nat) : Int) from rfl, mixL_nat (by omega) (blk_bytes hK), hB, h]
theorem padO_lit {K B P : List Int} (hK : bytesL K) (hB : blk K = B) (h : mixN 92 B = P) : padO K = P := by
  unfold padO
  rw [show (92 : Int) = ((92 : Nat) : Int) from rfl, mixL_nat (by omega) (blk_bytes hK), hB, h]
theorem tag_lit {K b A B E D : List Int} (h1 : padI K = A) (h2 : padO K = B) (h3 : shaOf (A ++ b) = E) (h4 : shaOf (B ++ E) = D) : tagL K b = D := by
  unfold tagL outerL innerL
  rw [h1, h2, h3, h4]
def jefe_k : List Int := [74, 101, 102, 101]
def jefe_m : List Int := [119, 104, 97, 116, 32, 100, 111, 32, 121, 97, 32, 119, 97, 110, 116, 32, 102, 111, 114, 32, 110, 111, 116, 104, 105, 110, 103, 63]
theorem jefe_kb : bytesL jefe_k := bytesL.of_all (by decide +kernel)
theorem jefe_mb : bytesL jefe_m := bytesL.of_all (by decide +kernel)
theorem jefe_blk : blk jefe_k = [74, 101, 102, 101, 0, 0, 0, 0, 0, 0, 0, 0, 0, 0, 0, 0, 0, 0, 0, 0, 0, 0, 0, 0, 0, 0, 0, 0, 0, 0, 0, 0, 0, 0, 0, 0, 0, 0, 0, 0, 0, 0, 0, 0, 0, 0, 0, 0, 0, 0, 0, 0, 0, 0, 0, 0, 0, 0, 0, 0, 0, 0, 0, 0] := (blk_short (by decide +kernel)).trans (by decide +kernel)
def jefe_A : List Int := [124, 83, 80, 83, 54, 54, 54, 54, 54, 54, 54, 54, 54, 54, 54, 54, 54, 54, 54, 54, 54, 54, 54, 54, 54, 54, 54, 54, 54, 54, 54, 54, 54, 54, 54, 54, 54, 54, 54, 54, 54, 54, 54, 54, 54, 54, 54, 54, 54, 54, 54, 54, 54, 54, 54, 54, 54, 54, 54, 54, 54, 54, 54, 54]
def jefe_B : List Int := [22, 57, 58, 57, 92, 92, 92, 92, 92, 92, 92, 92, 92, 92, 92, 92, 92, 92, 92, 92, 92, 92, 92, 92, 92, 92, 92, 92, 92, 92, 92, 92, 92, 92, 92, 92, 92, 92, 92, 92, 92, 92, 92, 92, 92, 92, 92, 92, 92, 92, 92, 92, 92, 92, 92, 92, 92, 92, 92, 92, 92, 92, 92, 92]
theorem jefe_pi : padI jefe_k = jefe_A := padI_lit jefe_kb jefe_blk (by decide +kernel)
theorem jefe_po : padO jefe_k = jefe_B := padO_lit jefe_kb jefe_blk (by decide +kernel)
def jefe_in_d : List Int := [162, 228, 133, 134, 61, 39, 249, 216, 100, 172, 141, 128, 36, 50, 161, 237, 71, 125, 140, 76, 111, 52, 157, 22, 212, 231, 233, 23, 198, 41, 202, 215]
theorem jefe_in : shaOf (jefe_A ++ jefe_m) = jefe_in_d := sha_lit 2 92 [2732885382, 1026030040, 1689030016, 607298029, 1199410252, 1865719062, 3571968279, 3324627671] (P := [128, 0, 0, 0, 0, 0, 0, 0, 0, 0, 0, 0, 0, 0, 0, 0, 0, 0, 0, 0, 0, 0, 0, 0, 0, 0, 0, 0, 0, 0, 0, 0, 0, 0, 2, 224]) (by decide +kernel) (by decide +kernel) (by decide +kernel) (by decide +kernel) (by decide +kernel)
def jefe_out_d : List Int := [91, 220, 193, 70, 191, 96, 117, 78, 106, 4, 36, 38, 8, 149, 117, 199, 90, 0, 63, 8, 157, 39, 57, 131, 157, 236, 88, 185, 100, 236, 56, 67]
theorem jefe_out : shaOf (jefe_B ++ jefe_in_d) = jefe_out_d := sha_lit 2 96 [1541194054, 3210769742, 1778656294, 144012743, 1509965576, 2636593539, 2649512121, 1693202499] (P := [128, 0, 0, 0, 0, 0, 0, 0, 0, 0, 0, 0, 0, 0, 0, 0, 0, 0, 0, 0, 0, 0, 0, 0, 0, 0, 0, 0, 0, 0, 3, 0]) (by decide +kernel) (by decide +kernel) (by decide +kernel) (by decide +kernel) (by decide +kernel)
theorem jefe_tag : Hid (tagIs jefe_k jefe_m 91 220 193 70 67) := Lib.hid (by unfold tagIs; rw [tag_lit jefe_pi jefe_po jefe_in jefe_out]; decide +kernel)
def hi_k : List Int := List.replicate 20 11
def hi_m : List Int := [72, 105, 32, 84, 104, 101, 114, 101]
theorem hi_kb : bytesL hi_k := bytesL.of_all (by decide +kernel)
theorem hi_mb : bytesL hi_m := bytesL.of_all (by decide +kernel)
theorem hi_blk : blk hi_k = [11, 11, 11, 11, 11, 11, 11, 11, 11, 11, 11, 11, 11, 11, 11, 11, 11, 11, 11, 11, 0, 0, 0, 0, 0, 0, 0, 0, 0, 0, 0, 0, 0, 0, 0, 0, 0, 0, 0, 0, 0, 0, 0, 0, 0, 0, 0, 0, 0, 0, 0, 0, 0, 0, 0, 0, 0, 0, 0, 0, 0, 0, 0, 0] := (blk_short (by decide +kernel)).trans (by decide +kernel)
def hi_A : List Int := [61, 61, 61, 61, 61, 61, 61, 61, 61, 61, 61, 61, 61, 61, 61, 61, 61, 61, 61, 61, 54, 54, 54, 54, 54, 54, 54, 54, 54, 54, 54, 54, 54, 54, 54, 54, 54, 54, 54, 54, 54, 54, 54, 54, 54, 54, 54, 54, 54, 54, 54, 54, 54, 54, 54, 54, 54, 54, 54, 54, 54, 54, 54, 54]
def hi_B : List Int := [87, 87, 87, 87, 87, 87, 87, 87, 87, 87, 87, 87, 87, 87, 87, 87, 87, 87, 87, 87, 92, 92, 92, 92, 92, 92, 92, 92, 92, 92, 92, 92, 92, 92, 92, 92, 92, 92, 92, 92, 92, 92, 92, 92, 92, 92, 92, 92, 92, 92, 92, 92, 92, 92, 92, 92, 92, 92, 92, 92, 92, 92, 92, 92]
theorem hi_pi : padI hi_k = hi_A := padI_lit hi_kb hi_blk (by decide +kernel)
theorem hi_po : padO hi_k = hi_B := padO_lit hi_kb hi_blk (by decide +kernel)
def hi_in_d : List Int := [146, 171, 77, 154, 31, 59, 97, 82, 188, 169, 221, 158, 105, 175, 67, 244, 206, 153, 228, 47, 212, 227, 15, 249, 114, 196, 128, 37, 185, 249, 207, 239]
theorem hi_in : shaOf (hi_A ++ hi_m) = hi_in_d := sha_lit 2 72 [2460700058, 523985234, 3165248926, 1773093876, 3466191919, 3571650553, 1925480485, 3120156655] (P := [128, 0, 0, 0, 0, 0, 0, 0, 0, 0, 0, 0, 0, 0, 0, 0, 0, 0, 0, 0, 0, 0, 0, 0, 0, 0, 0, 0, 0, 0, 0, 0, 0, 0, 0, 0, 0, 0, 0, 0, 0, 0, 0, 0, 0, 0, 0, 0, 0, 0, 0, 0, 0, 0, 2, 64]) (by decide +kernel) (by decide +kernel) (by decide +kernel) (by decide +kernel) (by decide +kernel)
def hi_out_d : List Int := [176, 52, 76, 97, 216, 219, 56, 83, 92, 168, 175, 206, 175, 11, 241, 43, 136, 29, 194, 0, 201, 131, 61, 167, 38, 233, 55, 108, 46, 50, 207, 247]
theorem hi_out : shaOf (hi_B ++ hi_in_d) = hi_out_d := sha_lit 2 96 [2956217441, 3638245459, 1554558926, 2936795435, 2283651584, 3380821415, 652818284, 775081975] (P := [128, 0, 0, 0, 0, 0, 0, 0, 0, 0, 0, 0, 0, 0, 0, 0, 0, 0, 0, 0, 0, 0, 0, 0, 0, 0, 0, 0, 0, 0, 3, 0]) (by decide +kernel) (by decide +kernel) (by decide +kernel) (by decide +kernel) (by decide +kernel)
theorem hi_tag : Hid (tagIs hi_k hi_m 176 52 76 97 247) := Lib.hid (by unfold tagIs; rw [tag_lit hi_pi hi_po hi_in hi_out]; decide +kernel)
def aa_k : List Int := List.replicate 131 170
def aa_m : List Int := [84, 101, 115, 116, 32, 85, 115, 105, 110, 103, 32, 76, 97, 114, 103, 101, 114, 32, 84, 104, 97, 110, 32, 66, 108, 111, 99, 107, 45, 83, 105, 122, 101, 32, 75, 101, 121, 32, 45, 32, 72, 97, 115, 104, 32, 75, 101, 121, 32, 70, 105, 114, 115, 116]
theorem aa_kb : bytesL aa_k := bytesL.of_all (by decide +kernel)
theorem aa_mb : bytesL aa_m := bytesL.of_all (by decide +kernel)
def aa_key_d : List Int := [69, 173, 75, 55, 198, 226, 252, 10, 44, 252, 193, 181, 218, 82, 65, 50, 236, 112, 118, 21, 194, 202, 225, 219, 188, 67, 201, 122, 165, 33, 219, 129]
theorem aa_key : shaOf (aa_k) = aa_key_d := sha_lit 3 131 [1168984887, 3336764426, 754762165, 3662823730, 3966793237, 3268075995, 3158559098, 2770459521] (P := [128, 0, 0, 0, 0, 0, 0, 0, 0, 0, 0, 0, 0, 0, 0, 0, 0, 0, 0, 0, 0, 0, 0, 0, 0, 0, 0, 0, 0, 0, 0, 0, 0, 0, 0, 0, 0, 0, 0, 0, 0, 0, 0, 0, 0, 0, 0, 0, 0, 0, 0, 0, 0, 0, 0, 0, 0, 0, 0, 4, 24]) (by decide +kernel) (by decide +kernel) (by decide +kernel) (by decide +kernel) (by decide +kernel)
theorem aa_blk : blk aa_k = [69, 173, 75, 55, 198, 226, 252, 10, 44, 252, 193, 181, 218, 82, 65, 50, 236, 112, 118, 21, 194, 202, 225, 219, 188, 67, 201, 122, 165, 33, 219, 129, 0, 0, 0, 0, 0, 0, 0, 0, 0, 0, 0, 0, 0, 0, 0, 0, 0, 0, 0, 0, 0, 0, 0, 0, 0, 0, 0, 0, 0, 0, 0, 0] := (blk_long (by decide +kernel) aa_key).trans (by decide +kernel)
def aa_A : List Int := [115, 155, 125, 1, 240, 212, 202, 60, 26, 202, 247, 131, 236, 100, 119, 4, 218, 70, 64, 35, 244, 252, 215, 237, 138, 117, 255, 76, 147, 23, 237, 183, 54, 54, 54, 54, 54, 54, 54, 54, 54, 54, 54, 54, 54, 54, 54, 54, 54, 54, 54, 54, 54, 54, 54, 54, 54, 54, 54, 54, 54, 54, 54, 54]
def aa_B : List Int := [25, 241, 23, 107, 154, 190, 160, 86, 112, 160, 157, 233, 134, 14, 29, 110, 176, 44, 42, 73, 158, 150, 189, 135, 224, 31, 149, 38, 249, 125, 135, 221, 92, 92, 92, 92, 92, 92, 92, 92, 92, 92, 92, 92, 92, 92, 92, 92, 92, 92, 92, 92, 92, 92, 92, 92, 92, 92, 92, 92, 92, 92, 92, 92]
theorem aa_pi : padI aa_k = aa_A := padI_lit aa_kb aa_blk (by decide +kernel)
theorem aa_po : padO aa_k = aa_B := padO_lit aa_kb aa_blk (by decide +kernel)
def aa_in_d : List Int := [167, 48, 56, 187, 204, 93, 111, 3, 55, 33, 85, 140, 164, 129, 243, 116, 114, 202, 1, 195, 180, 7, 47, 50, 92, 16, 114, 161, 146, 191, 226, 192]
theorem aa_in : shaOf (aa_A ++ aa_m) = aa_in_d := sha_lit 2 118 [2804955323, 3428675331, 924931468, 2759979892, 1925841347, 3020369714, 1544581793, 2462048960] (P := [128, 0, 0, 0, 0, 0, 0, 0, 3, 176]) (by decide +kernel) (by decide +kernel) (by decide +kernel) (by decide +kernel) (by decide +kernel)
def aa_out_d : List Int := [96, 228, 49, 89, 30, 224, 182, 127, 13, 138, 38, 170, 203, 245, 183, 127, 142, 11, 198, 33, 55, 40, 197, 20, 5, 70, 4, 15, 14, 227, 127, 84]
theorem aa_out : shaOf (aa_B ++ aa_in_d) = aa_out_d := sha_lit 2 96 [1625567577, 518043263, 227157674, 3421878143, 2383136289, 925418772, 88474639, 249790292] (P := [128, 0, 0, 0, 0, 0, 0, 0, 0, 0, 0, 0, 0, 0, 0, 0, 0, 0, 0, 0, 0, 0, 0, 0, 0, 0, 0, 0, 0, 0, 3, 0]) (by decide +kernel) (by decide +kernel) (by decide +kernel) (by decide +kernel) (by decide +kernel)
theorem aa_tag : Hid (tagIs aa_k aa_m 96 228 49 89 84) := Lib.hid (by unfold tagIs; rw [tag_lit aa_pi aa_po aa_in aa_out]; decide +kernel)

theorem tag_ok {v v2 : Value} {K xs D : List Int} (w : World) (hi : Hid (IsL w .u8 v K)) (h2 : Hid (IsL w .u8 v2 xs)) (hl : K.length ≤ 200) (hl2 : xs.length ≤ 127936) (hk : Hid (bytesL K)) (hx : Hid (bytesL xs)) (hD : Hid (tagL K xs = D)) (hL : Hid (LaidS w)) :
    Calls Tryd.prog 11 #[v, v2] w fun e w' => e = .returned (.tuple #[av D, .int .i64 0]) ∧ Below w.heap.size w w' :=
  tag_any w hi h2 hk hx (Lib.hid (by unfold sumOut; rw [if_neg (by omega), hD.out])) hL
theorem compare_as {v1 v2 : Value} {xs ys : List Int} {b : Bool} {n : Int} (w : World) (h1 : Hid (IsL w .u8 v1 xs)) (h2 : Hid (IsL w .u8 v2 ys)) (hb : Hid (sameB xs ys = b)) (hn : Hid (((max xs.length ys.length : Nat) : Int) = n)) :
    Calls Tryd.prog 14 #[v1, v2] w fun e w' => e = .returned (.tuple #[.bool b, .int .i64 n]) ∧ Below w.heap.size w w' := by
  have := compare_is w h1 h2
  rw [hb.out, hn.out] at this
  exact this

set_option maxRecDepth 100000 in
set_option maxHeartbeats 1600000 in
theorem is6_tt {v v2 : Value} {K xs : List Int} (a b c d l : Int) (w : World) (hi : Hid (IsL w .u8 v K)) (h2 : Hid (IsL w .u8 v2 xs)) (hl : K.length ≤ 200) (hl2 : xs.length ≤ 127936) (hk : Hid (bytesL K)) (hx : Hid (bytesL xs)) (hT : Hid (tagIs K xs a b c d l)) (hL : Hid (LaidS w)) :
    Calls Tryd.prog 8 #[v, v2, .agg #[.int .u8 a, .int .u8 b, .int .u8 c, .int .u8 d], .int .u8 l] w fun e w' => e = .returned (.bool true) ∧ Below w.heap.size w w' := by
  obtain ⟨D, hDe⟩ : ∃ D, tagL K xs = D := ⟨_, rfl⟩
  have hq : nth D 0 = a ∧ nth D 1 = b ∧ nth D 2 = c ∧ nth D 3 = d ∧ nth D 31 = l := by rw [← hDe]; exact hT.out
  have hDl : D.length = 32 := by rw [← hDe]; exact tagL_len _ _
  have HDE := Lib.hid hDe
  have HQ := Lib.hid hq
  have HDL := Lib.hid hDl
  have I32 := Lib.hid (size_dig hDl)
  have H32 := Lib.hid (len_dig hDl)
  clear hDe hDl hq hT
  go_enter Tryd.func8, Tryd.ntmps8
  go_wp2_with fail
  have hb0 : Box (w.alloc (.cells #[.int .u8 a, .int .u8 b, .int .u8 c, .int .u8 d] 25)) w.heap.size [.int .u8 a, .int .u8 b, .int .u8 c, .int .u8 d] := Box.newc rfl rfl
  refine (tag_ok _ (Lib.hid (hi.out.alloc _)) (Lib.hid (h2.out.alloc _)) hl hl2 hk hx HDE (Lib.hid (hL.out.alloc _))).mono ?_
  rintro e w1 ⟨rfl, hb⟩
  have hB1 : Below w.heap.size w w1 := below_thru (by go_grown) hb
  have hb1 := hb0.below hb
  have hs1 := hB1.size
  have hz1 := hb1.lt
  clear hb hb0
  go_upto_region 2 with (refine wpList_store_box (cs := D.map (Value.int .u8)) rfl _ _ _ rfl (Box.newc (l := zero32) rfl rfl) rfl rfl I32.out H32.out (oneCell_ints _) ?_; intro W3 hW3)
  have hB3 := hW3.below _ _ hs1 (hB1.alloc hs1 _)
  have hb3 : Box W3 w.heap.size [.int .u8 a, .int .u8 b, .int .u8 c, .int .u8 d] := hW3.past _ _ (by omega) (hb1.alloc _)
  have d0 := hb3.c 0 _ rfl
  have d1 := hb3.c 1 _ rfl
  have d2 := hb3.c 2 _ rfl
  have d3 := hb3.c 3 _ rfl
  have c0 := hW3.box.c 0 _ (nth_get 0 (by have := HDL.out; omega))
  have c1 := hW3.box.c 1 _ (nth_get 1 (by have := HDL.out; omega))
  have c2 := hW3.box.c 2 _ (nth_get 2 (by have := HDL.out; omega))
  have c3 := hW3.box.c 3 _ (nth_get 3 (by have := HDL.out; omega))
  have c4 := hW3.box.c 31 _ (nth_get 31 (by have := HDL.out; omega))
  rw [HQ.out.1] at c0
  rw [HQ.out.2.1] at c1
  rw [HQ.out.2.2.1] at c2
  rw [HQ.out.2.2.2.1] at c3
  rw [HQ.out.2.2.2.2] at c4
  clear hW3 hb3 hb1
  go_wp2_with fail
  go_returns
  exact ⟨rfl, hB3⟩

/-- '[]byte("..")' of a constant: the bytes, in a block that is marked. -/
theorem IsL.const {w : World} {k : IntKind} {b n m : Nat} {C : Array Value} {t : TypeId} {fr : Nat × Nat} (xs : List Int) (hb : b = w.heap.size) (hc : C = (xs.map (Value.int k)).toArray) (hn : n = xs.length) (hm : m = xs.length) (hl : xs.length ≤ 1000) : IsL (w.alloc (.cells C t fr)) k (.slice (some ⟨b, 0, Option.none⟩) n m) xs := by
  subst hc hn hm
  refine ⟨some ⟨b, 0, Option.none⟩, xs.length, rfl, ⟨Nat.le_refl _, by omega, fun _ => ⟨b, 0, rfl, fun i hi => ?_⟩⟩, fun h => by cases h⟩
  rw [Nat.zero_add, Go.Joins.cell_alloc_mark_at _ _ _ _ _ _ hb]
  simpa using nth_at (k := k) i hi
theorem conv1 (w : World) (C : Array Value) (n c : Nat) : (convert 23 23 (.slice (some ⟨w.heap.size, 0, none⟩) n c)).run Tryd.prog (w.alloc (.cells C 5)) = .ok (.slice (some ⟨w.heap.size, 0, none⟩) n c) (w.alloc (.cells C 5 (C.size, C.size + 1))) :=
  Go.Joins.run_convert_bytes_const_at w _ _ C n c _ rfl Tryd.underlying23 Tryd.underlying5
theorem conv2 (w : World) (X : Obj) (C : Array Value) (n c : Nat) : (convert 23 23 (.slice (some ⟨w.heap.size + 1, 0, none⟩) n c)).run Tryd.prog ((w.alloc X).alloc (.cells C 5)) = .ok (.slice (some ⟨w.heap.size + 1, 0, none⟩) n c) ((w.alloc X).alloc (.cells C 5 (C.size, C.size + 1))) :=
  Go.Joins.run_convert_bytes_const_at (w.alloc X) _ _ C n c _ (by simp) Tryd.underlying23 Tryd.underlying5
theorem cmp1 : Hid (sameB [97, 98, 99] [97, 98, 100] = false) := Lib.hid (by decide)
theorem cmp2 : Hid (sameB [97] [] = false) := Lib.hid (by decide)
set_option maxRecDepth 100000 in
set_option maxHeartbeats 1600000 in
theorem alive6_tt (w : World) (hL : Hid (LaidS w)) : Calls Tryd.prog 16 #[] w fun e w' => e = .returned (.bool true) ∧ Below w.heap.size w w' := by
  go_enter Tryd.func16, Tryd.ntmps16
  have cv1 := conv1
  have cv2 := conv2
  go_wp2_with fail
  refine (compare_as (n := 3) _ (Lib.hid (IsL.alloc (IsL.const [97, 98, 99] rfl rfl rfl rfl (by simp)) _)) (Lib.hid (IsL.const [97, 98, 100] (World.size_alloc _ _).symm rfl rfl rfl (by simp))) cmp1 (Lib.hid rfl)).mono ?_
  rintro e w1 ⟨rfl, hb⟩
  have hB1 : Below w.heap.size w w1 := below_thru (by go_grown) hb
  have hs1 := hB1.size
  clear hb
  go_wp2_with fail
  refine (compare_as (n := 1) _ (Lib.hid (IsL.const [97] rfl rfl rfl rfl (by simp))) (Lib.hid IsL.none) cmp2 (Lib.hid rfl)).mono ?_
  rintro e w2 ⟨rfl, hb⟩
  have hB2 : Below w.heap.size w w2 := below_thru (by go_grown) hb
  have hs2 := hB2.size
  clear hb hB1
  go_wp2_with fail
  refine (is6_tt (K := jefe_k) (xs := jefe_m) 91 220 193 70 67 _ (Lib.hid (IsL.alloc (IsL.const jefe_k rfl rfl rfl rfl (by decide)) _)) (Lib.hid (IsL.const jefe_m (World.size_alloc _ _).symm rfl rfl rfl (by decide))) (by decide) (by decide) (Lib.hid jefe_kb) (Lib.hid jefe_mb) jefe_tag (Lib.hid (hL.out.below (by go_grown)))).mono ?_
  rintro e w3 ⟨rfl, hb⟩
  have hB3 : Below w.heap.size w w3 := below_thru (by go_grown) hb
  clear hb
  go_wp2_with fail
  go_returns
  exact ⟨rfl, hB3⟩

end Go.Proofs.YtfobjdkpdeiidaaDoor
