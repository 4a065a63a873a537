/-
  Four tags of known bytes: the keys of the tenant 1 in the epochs 2 and 3, for the seed of bytes 0, and two tokens' tags.
-/
import Derived.Test.YtofjpeplgagihaaDoorKyMath
import Derived.Test.YtofjpeplgagihaaDoorGM1
namespace Go.Proofs.YtofjpeplgagihaaDoor
open Go.RowKit

def km2 : List Int := [107, 0, 0, 0, 1, 0, 0, 0, 2]
theorem kd2_blk : blk zeroD = [0, 0, 0, 0, 0, 0, 0, 0, 0, 0, 0, 0, 0, 0, 0, 0, 0, 0, 0, 0, 0, 0, 0, 0, 0, 0, 0, 0, 0, 0, 0, 0, 0, 0, 0, 0, 0, 0, 0, 0, 0, 0, 0, 0, 0, 0, 0, 0, 0, 0, 0, 0, 0, 0, 0, 0, 0, 0, 0, 0, 0, 0, 0, 0] := (blk_short (by decide +kernel)).trans (by decide +kernel)
def kd2_A : List Int := [54, 54, 54, 54, 54, 54, 54, 54, 54, 54, 54, 54, 54, 54, 54, 54, 54, 54, 54, 54, 54, 54, 54, 54, 54, 54, 54, 54, 54, 54, 54, 54, 54, 54, 54, 54, 54, 54, 54, 54, 54, 54, 54, 54, 54, 54, 54, 54, 54, 54, 54, 54, 54, 54, 54, 54, 54, 54, 54, 54, 54, 54, 54, 54]
def kd2_B : List Int := [92, 92, 92, 92, 92, 92, 92, 92, 92, 92, 92, 92, 92, 92, 92, 92, 92, 92, 92, 92, 92, 92, 92, 92, 92, 92, 92, 92, 92, 92, 92, 92, 92, 92, 92, 92, 92, 92, 92, 92, 92, 92, 92, 92, 92, 92, 92, 92, 92, 92, 92, 92, 92, 92, 92, 92, 92, 92, 92, 92, 92, 92, 92, 92]
theorem kd2_pi : padI zeroD = kd2_A := padI_lit zeroD_byts.l kd2_blk (by decide +kernel)
theorem kd2_po : padO zeroD = kd2_B := padO_lit zeroD_byts.l kd2_blk (by decide +kernel)
def kd2_in_d : List Int := [215, 209, 197, 188, 191, 119, 108, 201, 38, 30, 216, 168, 213, 235, 30, 53, 49, 91, 61, 49, 215, 222, 210, 242, 154, 193, 99, 174, 83, 243, 208, 194]
def kd2_d : List Int := [207, 17, 142, 69, 45, 109, 239, 164, 199, 196, 250, 94, 105, 15, 159, 245, 125, 34, 52, 135, 146, 100, 91, 210, 253, 125, 244, 183, 78, 230, 197, 109]
theorem kd2_in : shaOf (kd2_A ++ km2) = kd2_in_d := sha_lit 2 73 [3620849084, 3212274889, 639555752, 3588955701, 828063025, 3621704434, 2596365230, 1408487618] (P := [128, 0, 0, 0, 0, 0, 0, 0, 0, 0, 0, 0, 0, 0, 0, 0, 0, 0, 0, 0, 0, 0, 0, 0, 0, 0, 0, 0, 0, 0, 0, 0, 0, 0, 0, 0, 0, 0, 0, 0, 0, 0, 0, 0, 0, 0, 0, 0, 0, 0, 0, 0, 0, 2, 72]) (by decide +kernel) (by decide +kernel) (by decide +kernel) (by decide +kernel) (by decide +kernel)
theorem kd2_out : shaOf (kd2_B ++ kd2_in_d) = kd2_d := sha_lit 2 96 [3474034245, 762179492, 3351575134, 1762631669, 2099393671, 2456050642, 4252890295, 1323746669] (P := [128, 0, 0, 0, 0, 0, 0, 0, 0, 0, 0, 0, 0, 0, 0, 0, 0, 0, 0, 0, 0, 0, 0, 0, 0, 0, 0, 0, 0, 0, 3, 0]) (by decide +kernel) (by decide +kernel) (by decide +kernel) (by decide +kernel) (by decide +kernel)
theorem kd2_tag : tagL zeroD km2 = kd2_d := tag_lit kd2_pi kd2_po kd2_in kd2_out
theorem kd2_b : bytesL kd2_d := bytesL.of_all (by decide +kernel)
def tm2 : List Int := [0, 0, 0, 1, 0, 0, 0, 9, 0, 0, 0, 2, 0, 0, 0, 0, 0, 0, 0, 77]
theorem td2_blk : blk kd2_d = [207, 17, 142, 69, 45, 109, 239, 164, 199, 196, 250, 94, 105, 15, 159, 245, 125, 34, 52, 135, 146, 100, 91, 210, 253, 125, 244, 183, 78, 230, 197, 109, 0, 0, 0, 0, 0, 0, 0, 0, 0, 0, 0, 0, 0, 0, 0, 0, 0, 0, 0, 0, 0, 0, 0, 0, 0, 0, 0, 0, 0, 0, 0, 0] := (blk_short (by decide +kernel)).trans (by decide +kernel)
def td2_A : List Int := [249, 39, 184, 115, 27, 91, 217, 146, 241, 242, 204, 104, 95, 57, 169, 195, 75, 20, 2, 177, 164, 82, 109, 228, 203, 75, 194, 129, 120, 208, 243, 91, 54, 54, 54, 54, 54, 54, 54, 54, 54, 54, 54, 54, 54, 54, 54, 54, 54, 54, 54, 54, 54, 54, 54, 54, 54, 54, 54, 54, 54, 54, 54, 54]
def td2_B : List Int := [147, 77, 210, 25, 113, 49, 179, 248, 155, 152, 166, 2, 53, 83, 195, 169, 33, 126, 104, 219, 206, 56, 7, 142, 161, 33, 168, 235, 18, 186, 153, 49, 92, 92, 92, 92, 92, 92, 92, 92, 92, 92, 92, 92, 92, 92, 92, 92, 92, 92, 92, 92, 92, 92, 92, 92, 92, 92, 92, 92, 92, 92, 92, 92]
theorem td2_pi : padI kd2_d = td2_A := padI_lit kd2_b td2_blk (by decide +kernel)
theorem td2_po : padO kd2_d = td2_B := padO_lit kd2_b td2_blk (by decide +kernel)
def td2_in_d : List Int := [209, 141, 3, 229, 121, 151, 160, 250, 230, 127, 44, 2, 88, 51, 72, 196, 30, 207, 194, 239, 39, 200, 210, 130, 197, 37, 201, 84, 147, 220, 234, 218]
def td2_d : List Int := [71, 252, 70, 206, 236, 83, 68, 132, 202, 214, 151, 63, 157, 204, 20, 100, 213, 6, 187, 54, 4, 182, 194, 239, 249, 246, 119, 48, 166, 133, 134, 189]
theorem td2_in : shaOf (td2_A ++ tm2) = td2_in_d := sha_lit 2 84 [3515679717, 2039980282, 3867094018, 1479755972, 516932335, 667472514, 3307587924, 2480728794] (P := [128, 0, 0, 0, 0, 0, 0, 0, 0, 0, 0, 0, 0, 0, 0, 0, 0, 0, 0, 0, 0, 0, 0, 0, 0, 0, 0, 0, 0, 0, 0, 0, 0, 0, 0, 0, 0, 0, 0, 0, 0, 0, 2, 160]) (by decide +kernel) (by decide +kernel) (by decide +kernel) (by decide +kernel) (by decide +kernel)
theorem td2_out : shaOf (td2_B ++ td2_in_d) = td2_d := sha_lit 2 96 [1207715534, 3964880004, 3403061055, 2647397476, 3573988150, 79086319, 4193679152, 2793768637] (P := [128, 0, 0, 0, 0, 0, 0, 0, 0, 0, 0, 0, 0, 0, 0, 0, 0, 0, 0, 0, 0, 0, 0, 0, 0, 0, 0, 0, 0, 0, 3, 0]) (by decide +kernel) (by decide +kernel) (by decide +kernel) (by decide +kernel) (by decide +kernel)
theorem td2_tag : tagL kd2_d tm2 = td2_d := tag_lit td2_pi td2_po td2_in td2_out
def tk2 : Nums := ⟨1, 9, 2, 77, by decide, by decide, by decide, by decide⟩
theorem km2_is : keyMsg 1 2 = km2 := by decide +kernel
theorem tm2_is : tk2.msg = tm2 := by decide +kernel
theorem mint2 : minted zeroD tk2 = td2_d := by
  unfold minted tkeyL
  rw [show tk2.t = 1 from rfl, show tk2.e = 2 from rfl, km2_is, kd2_tag, tm2_is, td2_tag]
def km3 : List Int := [107, 0, 0, 0, 1, 0, 0, 0, 3]
theorem kd3_blk : blk zeroD = [0, 0, 0, 0, 0, 0, 0, 0, 0, 0, 0, 0, 0, 0, 0, 0, 0, 0, 0, 0, 0, 0, 0, 0, 0, 0, 0, 0, 0, 0, 0, 0, 0, 0, 0, 0, 0, 0, 0, 0, 0, 0, 0, 0, 0, 0, 0, 0, 0, 0, 0, 0, 0, 0, 0, 0, 0, 0, 0, 0, 0, 0, 0, 0] := (blk_short (by decide +kernel)).trans (by decide +kernel)
def kd3_A : List Int := [54, 54, 54, 54, 54, 54, 54, 54, 54, 54, 54, 54, 54, 54, 54, 54, 54, 54, 54, 54, 54, 54, 54, 54, 54, 54, 54, 54, 54, 54, 54, 54, 54, 54, 54, 54, 54, 54, 54, 54, 54, 54, 54, 54, 54, 54, 54, 54, 54, 54, 54, 54, 54, 54, 54, 54, 54, 54, 54, 54, 54, 54, 54, 54]
def kd3_B : List Int := [92, 92, 92, 92, 92, 92, 92, 92, 92, 92, 92, 92, 92, 92, 92, 92, 92, 92, 92, 92, 92, 92, 92, 92, 92, 92, 92, 92, 92, 92, 92, 92, 92, 92, 92, 92, 92, 92, 92, 92, 92, 92, 92, 92, 92, 92, 92, 92, 92, 92, 92, 92, 92, 92, 92, 92, 92, 92, 92, 92, 92, 92, 92, 92]
theorem kd3_pi : padI zeroD = kd3_A := padI_lit zeroD_byts.l kd3_blk (by decide +kernel)
theorem kd3_po : padO zeroD = kd3_B := padO_lit zeroD_byts.l kd3_blk (by decide +kernel)
def kd3_in_d : List Int := [173, 124, 2, 165, 65, 111, 166, 31, 24, 133, 90, 104, 111, 179, 119, 177, 14, 160, 76, 51, 17, 171, 161, 84, 124, 236, 47, 179, 144, 130, 19, 15]
def kd3_d : List Int := [248, 163, 96, 136, 101, 94, 143, 103, 108, 145, 163, 74, 40, 144, 230, 58, 213, 180, 235, 91, 129, 193, 58, 186, 107, 233, 199, 176, 3, 92, 101, 57]
theorem kd3_in : shaOf (kd3_A ++ km3) = kd3_in_d := sha_lit 2 73 [2910585509, 1097836063, 411392616, 1874032561, 245386291, 296460628, 2095853491, 2424443663] (P := [128, 0, 0, 0, 0, 0, 0, 0, 0, 0, 0, 0, 0, 0, 0, 0, 0, 0, 0, 0, 0, 0, 0, 0, 0, 0, 0, 0, 0, 0, 0, 0, 0, 0, 0, 0, 0, 0, 0, 0, 0, 0, 0, 0, 0, 0, 0, 0, 0, 0, 0, 0, 0, 2, 72]) (by decide +kernel) (by decide +kernel) (by decide +kernel) (by decide +kernel) (by decide +kernel)
theorem kd3_out : shaOf (kd3_B ++ kd3_in_d) = kd3_d := sha_lit 2 96 [4171456648, 1700695911, 1821483850, 680584762, 3585403739, 2176924346, 1810483120, 56386873] (P := [128, 0, 0, 0, 0, 0, 0, 0, 0, 0, 0, 0, 0, 0, 0, 0, 0, 0, 0, 0, 0, 0, 0, 0, 0, 0, 0, 0, 0, 0, 3, 0]) (by decide +kernel) (by decide +kernel) (by decide +kernel) (by decide +kernel) (by decide +kernel)
theorem kd3_tag : tagL zeroD km3 = kd3_d := tag_lit kd3_pi kd3_po kd3_in kd3_out
theorem kd3_b : bytesL kd3_d := bytesL.of_all (by decide +kernel)
def tm3 : List Int := [0, 0, 0, 1, 0, 0, 0, 9, 0, 0, 0, 3, 0, 0, 0, 0, 0, 0, 0, 77]
theorem td3_blk : blk kd3_d = [248, 163, 96, 136, 101, 94, 143, 103, 108, 145, 163, 74, 40, 144, 230, 58, 213, 180, 235, 91, 129, 193, 58, 186, 107, 233, 199, 176, 3, 92, 101, 57, 0, 0, 0, 0, 0, 0, 0, 0, 0, 0, 0, 0, 0, 0, 0, 0, 0, 0, 0, 0, 0, 0, 0, 0, 0, 0, 0, 0, 0, 0, 0, 0] := (blk_short (by decide +kernel)).trans (by decide +kernel)
def td3_A : List Int := [206, 149, 86, 190, 83, 104, 185, 81, 90, 167, 149, 124, 30, 166, 208, 12, 227, 130, 221, 109, 183, 247, 12, 140, 93, 223, 241, 134, 53, 106, 83, 15, 54, 54, 54, 54, 54, 54, 54, 54, 54, 54, 54, 54, 54, 54, 54, 54, 54, 54, 54, 54, 54, 54, 54, 54, 54, 54, 54, 54, 54, 54, 54, 54]
def td3_B : List Int := [164, 255, 60, 212, 57, 2, 211, 59, 48, 205, 255, 22, 116, 204, 186, 102, 137, 232, 183, 7, 221, 157, 102, 230, 55, 181, 155, 236, 95, 0, 57, 101, 92, 92, 92, 92, 92, 92, 92, 92, 92, 92, 92, 92, 92, 92, 92, 92, 92, 92, 92, 92, 92, 92, 92, 92, 92, 92, 92, 92, 92, 92, 92, 92]
theorem td3_pi : padI kd3_d = td3_A := padI_lit kd3_b td3_blk (by decide +kernel)
theorem td3_po : padO kd3_d = td3_B := padO_lit kd3_b td3_blk (by decide +kernel)
def td3_in_d : List Int := [19, 184, 17, 153, 167, 206, 56, 253, 34, 53, 104, 215, 30, 76, 197, 236, 249, 119, 238, 223, 187, 71, 120, 91, 173, 213, 129, 156, 138, 32, 25, 183]
def td3_d : List Int := [137, 122, 10, 238, 250, 0, 162, 222, 25, 204, 25, 33, 75, 160, 165, 178, 145, 207, 124, 42, 254, 55, 121, 9, 250, 252, 60, 233, 84, 172, 113, 152]
theorem td3_in : shaOf (td3_A ++ tm3) = td3_in_d := sha_lit 2 84 [330830233, 2815310077, 573925591, 508347884, 4185386719, 3142023259, 2916450716, 2317359543] (P := [128, 0, 0, 0, 0, 0, 0, 0, 0, 0, 0, 0, 0, 0, 0, 0, 0, 0, 0, 0, 0, 0, 0, 0, 0, 0, 0, 0, 0, 0, 0, 0, 0, 0, 0, 0, 0, 0, 0, 0, 0, 0, 2, 160]) (by decide +kernel) (by decide +kernel) (by decide +kernel) (by decide +kernel) (by decide +kernel)
theorem td3_out : shaOf (td3_B ++ td3_in_d) = td3_d := sha_lit 2 96 [2306476782, 4194345694, 432806177, 1268819378, 2446294058, 4265048329, 4210834665, 1420587416] (P := [128, 0, 0, 0, 0, 0, 0, 0, 0, 0, 0, 0, 0, 0, 0, 0, 0, 0, 0, 0, 0, 0, 0, 0, 0, 0, 0, 0, 0, 0, 3, 0]) (by decide +kernel) (by decide +kernel) (by decide +kernel) (by decide +kernel) (by decide +kernel)
theorem td3_tag : tagL kd3_d tm3 = td3_d := tag_lit td3_pi td3_po td3_in td3_out
def tk3 : Nums := ⟨1, 9, 3, 77, by decide, by decide, by decide, by decide⟩
theorem km3_is : keyMsg 1 3 = km3 := by decide +kernel
theorem tm3_is : tk3.msg = tm3 := by decide +kernel
theorem mint3 : minted zeroD tk3 = td3_d := by
  unfold minted tkeyL
  rw [show tk3.t = 1 from rfl, show tk3.e = 3 from rfl, km3_is, kd3_tag, tm3_is, td3_tag]
theorem mint_ne : minted zeroD tk3 ≠ minted zeroD tk2 := by
  rw [mint2, mint3]
  decide +kernel

end Go.Proofs.YtofjpeplgagihaaDoor
