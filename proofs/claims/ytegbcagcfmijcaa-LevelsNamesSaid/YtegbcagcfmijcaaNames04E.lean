/-
  LevelsNames, walked over the contracts of package levels: piece E.
-/
import Derived.Test.YtegbcagcfmijcaaNames04D
namespace Go.Proofs.Ytegbcagcfmijcaa
open Go.RowKit

set_option maxRecDepth 100000 in
set_option maxHeartbeats 25600000 in
theorem names04_q5 (w : World) : (names04_p4 w).1 := by
  have m1 := mk1
  have m2 := mk200
  have m3 := mk201
  have m4 := mkc200
  have m5 := mkb9
  have EM := Lib.hid manyB_e
  have EB := Lib.hid badB_e
  have EBA := Lib.hid badB_a
  have EGA := Lib.hid givs_a
  have RM := Lib.hid r_many
  have R2 := Lib.hid r_201
  have R3 := Lib.hid r_1
  have R4 := Lib.hid r_neg
  have R5 := Lib.hid r_1neg
  have RN0 := Lib.hid row_nil
  have RG := Lib.hid givs_row
  have T1 := Lib.hid tak_nil
  have T2 := Lib.hid tak_nilB
  have T3 := Lib.hid wts_nil
  have T4 := Lib.hid tak_00
  have T5 := Lib.hid tak_00B
  have T6 := Lib.hid tak_96
  have T7 := Lib.hid tak_96B
  have T8 := Lib.hid wts_6
  have EN0 := Lib.hid ent_nil
  have E200 := Lib.hid ent_200
  have L0 : Hid (([] : List Int).length = 0) := Lib.hid rfl
  have Z0 : Hid (runR givs [] [] 0 = givs) := Lib.hid rfl
  have A0 : Hid (runA givs [] [] 0 = []) := Lib.hid rfl
  have L200 := Lib.hid (zn_len 200)
  obtain ⟨zs, ezs⟩ : ∃ y, runR givs (zn 200) (zn 200) 200 = y := ⟨_, rfl⟩
  obtain ⟨aa, eaa⟩ : ∃ y, runA givs (zn 200) (zn 200) 200 = y := ⟨_, rfl⟩
  have Z200 := Lib.hid ezs
  have A200 := Lib.hid eaa
  have ZL := Lib.hid (show zs.length = 2 by rw [← ezs, runR_len]; rfl)
  have AL := Lib.hid (show aa.length = 200 by rw [← eaa]; exact runA_len _ _ _ _)
  clear ezs eaa
  delta names04_p4
  dsimp only
  intro wa w0 hBw hsw va vc vd vf xa ya u20 u21 u23 u24 xb yb u29 u30 ak ck vm am cm vo vq u53 u54 u55 u56 u57 u58 u59 u60 u61 u62 u63 u64 u65 u66 u67 u68 u69 u70 u71 u72 u73 u74 u75 u76 u77 u78 u79 u80 u81 u82 u83 u84 u85 u86 u87 u88 u89 u90 u91 u92 u93 u94 u95 u96 u97 u98 u99 u100 u101 u102 u103 u104 u105 u106 u107 u108 u109 u110 u111 u112 u113 u114 u115 u116 u117 u118 u119 u120 u121 u122 u123 u124 u125 u126 u127 u128 u129 u130 u131 u132 u133 u134 u135 u136 u137 u138 u139 u140 u141 u142 u143 u144 u145 u146 u147 u148 u149 u150 u151 u152 u153 u154 u155 u156 u157 u158 u159 u160 u161 u162 u163 u164 u165 u166 u167 u168 u169 u170 u171 u172 u173 u174 u175 u176 u177 u178 u179 u180 u181 u182 u183 u184 u185 u186 u187 u188 u189 u190 u191 u192 u193 u194 u195 u196 u197 u198 u199 u200 u201 u202 u203 u204 u205 u206 u207 u208 u209 u210 u211 u212 u213 u214 u215 u216 u217 u218 u219 u220 u221 u222 u223 u224 u225 u226 u227 u228 u229 u230 u231 u232 u233 u234 u235 u236 u237 u238 u239 u240 u241 u242 u243 u244 u245 u246 u247 u248 u249 u250 u251 u252 u253 u254 u255 u256 u257 u258 u259 u260 u261 u262 u263 u264 u265 u266 u267 u268 u269 u270 u271 u272 u273 u274 u275 u276 u277 u278 u279 u280 u281 u282 u283 u284 u285 u286 u287 u288 u289 u290 u291 u292 u293 u294 u295 u296 u297 u298 u299 u300 u301 u302 u303 u304 u305 u306 u307 u308 u309 u310 u311 u312 u313 u314 u315 u316 u317 u318 u319 a49 c49 a50 c50 w28 hB28 hs28 Om2 Oq2 Oo2
  go_wp2_with fail
  refine (given4_any _).mono ?_
  rintro e w29 ⟨vs, rfl, ho, hb⟩
  have hB29 : Below w0.heap.size w0 w29 := below_thru (by go_grown) hb
  have hs29 := hB29.size
  have Om2_ : Hid (IsB w29 vm givs) := Lib.hid (by first | exact Om2.out.below hb | exact (Om2.out.alloc _).below hb | exact ((Om2.out.alloc _).alloc _).below hb | exact (((Om2.out.alloc _).alloc _).alloc _).below hb | exact Om2.out.drew.below hb)
  clear Om2; have Om2 := Om2_; clear Om2_
  have Oq2_ : Hid (IsB w29 vq keptB) := Lib.hid (by first | exact Oq2.out.below hb | exact (Oq2.out.alloc _).below hb | exact ((Oq2.out.alloc _).alloc _).below hb | exact (((Oq2.out.alloc _).alloc _).alloc _).below hb | exact Oq2.out.drew.below hb)
  clear Oq2; have Oq2 := Oq2_; clear Oq2_
  have Oo2_ : Hid (IsB w29 vo givs) := Lib.hid (by first | exact Oo2.out.below hb | exact (Oo2.out.alloc _).below hb | exact ((Oo2.out.alloc _).alloc _).below hb | exact (((Oo2.out.alloc _).alloc _).alloc _).below hb | exact Oo2.out.drew.below hb)
  clear Oo2; have Oo2 := Oo2_; clear Oo2_
  have Os : Hid (OwnB w0.heap.size w29 vs (givs)) := Lib.hid (ho.base (by first | omega | (simp; omega)))
  clear ho
  clear hb
  clear hB28 hs28
  go_wp2_with fail
  refine (sameb_tt Om2.out Os.out.is).mono ?_
  rintro e w30 ⟨rfl, hb⟩
  have hB30 : Below w0.heap.size w0 w30 := below_thru (by go_grown) hb
  have hs30 := hB30.size
  have Om2_ : Hid (IsB w30 vm givs) := Lib.hid (by first | exact Om2.out.below hb | exact (Om2.out.alloc _).below hb | exact ((Om2.out.alloc _).alloc _).below hb | exact (((Om2.out.alloc _).alloc _).alloc _).below hb | exact Om2.out.drew.below hb)
  clear Om2; have Om2 := Om2_; clear Om2_
  have Oq2_ : Hid (IsB w30 vq keptB) := Lib.hid (by first | exact Oq2.out.below hb | exact (Oq2.out.alloc _).below hb | exact ((Oq2.out.alloc _).alloc _).below hb | exact (((Oq2.out.alloc _).alloc _).alloc _).below hb | exact Oq2.out.drew.below hb)
  clear Oq2; have Oq2 := Oq2_; clear Oq2_
  have Oo2_ : Hid (IsB w30 vo givs) := Lib.hid (by first | exact Oo2.out.below hb | exact (Oo2.out.alloc _).below hb | exact ((Oo2.out.alloc _).alloc _).below hb | exact (((Oo2.out.alloc _).alloc _).alloc _).below hb | exact Oo2.out.drew.below hb)
  clear Oo2; have Oo2 := Oo2_; clear Oo2_
  have Os_ : Hid (OwnB w0.heap.size w30 vs (givs)) := Lib.hid (by first | exact Os.out.below hb | exact (Os.out.alloc _).below hb | exact ((Os.out.alloc _).alloc _).below hb | exact (((Os.out.alloc _).alloc _).alloc _).below hb | exact Os.out.drew.below hb)
  clear Os; have Os := Os_; clear Os_
  clear hb
  clear hB29 hs29
  clear Os
  go_wp2_with fail
  refine (given4_any _).mono ?_
  rintro e w31 ⟨vt, rfl, ho, hb⟩
  have hB31 : Below w0.heap.size w0 w31 := below_thru (by go_grown) hb
  have hs31 := hB31.size
  have Om2_ : Hid (IsB w31 vm givs) := Lib.hid (by first | exact Om2.out.below hb | exact (Om2.out.alloc _).below hb | exact ((Om2.out.alloc _).alloc _).below hb | exact (((Om2.out.alloc _).alloc _).alloc _).below hb | exact Om2.out.drew.below hb)
  clear Om2; have Om2 := Om2_; clear Om2_
  have Oq2_ : Hid (IsB w31 vq keptB) := Lib.hid (by first | exact Oq2.out.below hb | exact (Oq2.out.alloc _).below hb | exact ((Oq2.out.alloc _).alloc _).below hb | exact (((Oq2.out.alloc _).alloc _).alloc _).below hb | exact Oq2.out.drew.below hb)
  clear Oq2; have Oq2 := Oq2_; clear Oq2_
  have Oo2_ : Hid (IsB w31 vo givs) := Lib.hid (by first | exact Oo2.out.below hb | exact (Oo2.out.alloc _).below hb | exact ((Oo2.out.alloc _).alloc _).below hb | exact (((Oo2.out.alloc _).alloc _).alloc _).below hb | exact Oo2.out.drew.below hb)
  clear Oo2; have Oo2 := Oo2_; clear Oo2_
  have Ot : Hid (OwnB w0.heap.size w31 vt (givs)) := Lib.hid (ho.base (by first | omega | (simp; omega)))
  clear ho
  clear hb
  clear hB30 hs30
  go_wp2_with fail
  refine (sameb_tt Oo2.out Ot.out.is).mono ?_
  rintro e w32 ⟨rfl, hb⟩
  have hB32 : Below w0.heap.size w0 w32 := below_thru (by go_grown) hb
  have hs32 := hB32.size
  have Om2_ : Hid (IsB w32 vm givs) := Lib.hid (by first | exact Om2.out.below hb | exact (Om2.out.alloc _).below hb | exact ((Om2.out.alloc _).alloc _).below hb | exact (((Om2.out.alloc _).alloc _).alloc _).below hb | exact Om2.out.drew.below hb)
  clear Om2; have Om2 := Om2_; clear Om2_
  have Oq2_ : Hid (IsB w32 vq keptB) := Lib.hid (by first | exact Oq2.out.below hb | exact (Oq2.out.alloc _).below hb | exact ((Oq2.out.alloc _).alloc _).below hb | exact (((Oq2.out.alloc _).alloc _).alloc _).below hb | exact Oq2.out.drew.below hb)
  clear Oq2; have Oq2 := Oq2_; clear Oq2_
  have Oo2_ : Hid (IsB w32 vo givs) := Lib.hid (by first | exact Oo2.out.below hb | exact (Oo2.out.alloc _).below hb | exact ((Oo2.out.alloc _).alloc _).below hb | exact (((Oo2.out.alloc _).alloc _).alloc _).below hb | exact Oo2.out.drew.below hb)
  clear Oo2; have Oo2 := Oo2_; clear Oo2_
  have Ot_ : Hid (OwnB w0.heap.size w32 vt (givs)) := Lib.hid (by first | exact Ot.out.below hb | exact (Ot.out.alloc _).below hb | exact ((Ot.out.alloc _).alloc _).below hb | exact (((Ot.out.alloc _).alloc _).alloc _).below hb | exact Ot.out.drew.below hb)
  clear Ot; have Ot := Ot_; clear Ot_
  clear hb
  clear hB31 hs31
  clear Ot
  clear Om2
  clear Oo2
  obtain ⟨bq, oq, cq, rfl, _, _, xq, yq⟩ := (show IsB w32 vq [⟨5, 1, 1, 5, 0, 9⟩, ⟨8, 1, 4, 8, 0, 9⟩] from Oq2.out).two
  have f1 := xq 3 _ rfl
  have f2 := xq 5 _ rfl
  have zq := lt_of_cell f1
  clear xq yq Oq2
  go_wp2_with fail
  refine (alive04_any _).mono ?_
  rintro e w33 ⟨rfl, hb⟩
  have hB33 : Below w0.heap.size w0 w33 := below_thru (by go_grown) hb
  have hs33 := hB33.size
  clear hb
  clear hB32 hs32
  go_wp2_with fail
  go_returns
  exact ⟨rfl, hBw.trans (hB33.mono hsw)⟩

theorem names04_any (w : World) : Calls Try.prog 3 #[] w fun e w' => e = .returned (.bool true) ∧ Below w.heap.size w w' :=
  (names04_p1 w).2 ⟨(names04_p2 w).2 ⟨(names04_p3 w).2 ⟨(names04_p4 w).2 ⟨names04_q5 w⟩⟩⟩⟩

end Go.Proofs.Ytegbcagcfmijcaa
