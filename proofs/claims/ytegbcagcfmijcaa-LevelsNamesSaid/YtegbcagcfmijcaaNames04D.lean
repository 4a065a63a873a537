/-
  LevelsNames, walked over the contracts of package levels: piece D.
-/
import Derived.Test.YtegbcagcfmijcaaNames04C
namespace Go.Proofs.Ytegbcagcfmijcaa
open Go.RowKit

set_option maxRecDepth 100000 in
set_option maxHeartbeats 25600000 in
def names04_p4 (w : World) : PSigma fun G : Prop => (Later G → (names04_p3 w).1) := ⟨_, fun hG => by
  have m1 := mk1
  have m2 := mk200
  have m3 := mk201
  have m4 := mkc200
  have m5 := mkb9
  have EM := Lib.hid manyB_e
  have EB := Lib.hid badB_e
  have EBA := Lib.hid badB_a
  have EGA := Lib.hid givs_a
  have RM := Lib.hid r_many
  have R2 := Lib.hid r_201
  have R3 := Lib.hid r_1
  have R4 := Lib.hid r_neg
  have R5 := Lib.hid r_1neg
  have RN0 := Lib.hid row_nil
  have RG := Lib.hid givs_row
  have T1 := Lib.hid tak_nil
  have T2 := Lib.hid tak_nilB
  have T3 := Lib.hid wts_nil
  have T4 := Lib.hid tak_00
  have T5 := Lib.hid tak_00B
  have T6 := Lib.hid tak_96
  have T7 := Lib.hid tak_96B
  have T8 := Lib.hid wts_6
  have EN0 := Lib.hid ent_nil
  have E200 := Lib.hid ent_200
  have L0 : Hid (([] : List Int).length = 0) := Lib.hid rfl
  have Z0 : Hid (runR givs [] [] 0 = givs) := Lib.hid rfl
  have A0 : Hid (runA givs [] [] 0 = []) := Lib.hid rfl
  have L200 := Lib.hid (zn_len 200)
  obtain ⟨zs, ezs⟩ : ∃ y, runR givs (zn 200) (zn 200) 200 = y := ⟨_, rfl⟩
  obtain ⟨aa, eaa⟩ : ∃ y, runA givs (zn 200) (zn 200) 200 = y := ⟨_, rfl⟩
  have Z200 := Lib.hid ezs
  have A200 := Lib.hid eaa
  have ZL := Lib.hid (show zs.length = 2 by rw [← ezs, runR_len]; rfl)
  have AL := Lib.hid (show aa.length = 200 by rw [← eaa]; exact runA_len _ _ _ _)
  clear ezs eaa
  delta names04_p3
  dsimp only
  intro wa w0 hBw hsw MANY0 BAD0 va vc vd vf xa ya u20 u21 u23 u24 xb yb u29 u30 u53 u54 u55 u56 u57 u58 u59 u60 u61 u62 u63 u64 u65 u66 u67 u68 u69 u70 u71 u72 u73 u74 u75 u76 u77 u78 u79 u80 u81 u82 u83 u84 u85 u86 u87 u88 u89 u90 u91 u92 u93 u94 u95 u96 u97 u98 u99 u100 u101 u102 u103 u104 u105 u106 u107 u108 u109 u110 u111 u112 u113 u114 u115 u116 u117 u118 u119 u120 u121 u122 u123 u124 u125 u126 u127 u128 u129 u130 u131 u132 u133 u134 u135 u136 u137 u138 u139 u140 u141 u142 u143 u144 u145 u146 u147 u148 u149 u150 u151 u152 u153 u154 u155 u156 u157 u158 u159 u160 u161 u162 u163 u164 u165 u166 u167 u168 u169 u170 u171 u172 u173 u174 u175 u176 u177 u178 u179 u180 u181 u182 u183 u184 u185 u186 u187 u188 u189 u190 u191 u192 u193 u194 u195 u196 u197 u198 u199 u200 u201 u202 u203 u204 u205 u206 u207 u208 u209 u210 u211 u212 u213 u214 u215 u216 u217 u218 u219 u220 u221 u222 u223 u224 u225 u226 u227 u228 u229 u230 u231 u232 u233 u234 u235 u236 u237 u238 u239 u240 u241 u242 u243 u244 u245 u246 u247 u248 u249 u250 u251 u252 u253 u254 u255 u256 u257 u258 u259 u260 u261 u262 u263 u264 u265 u266 u267 u268 u269 u270 u271 u272 u273 u274 u275 u276 u277 u278 u279 u280 u281 u282 u283 u284 u285 u286 u287 u288 u289 u290 u291 u292 u293 u294 u295 u296 u297 u298 u299 u300 u301 u302 u303 u304 u305 u306 u307 u308 u309 u310 u311 u312 u313 u314 u315 u316 u317 u318 u319 w15 hB15 hs15
  go_wp2_with fail
  refine (checkr_is EM (MANY0.out.below hB15)).mono ?_
  rintro e w16 ⟨rfl, hb⟩
  have hB16 : Below w0.heap.size w0 w16 := below_thru (by go_grown) hb
  have hs16 := hB16.size
  clear hb
  clear hB15 hs15
  go_wp2_with fail
  refine (checkr_is EB (BAD0.out.below hB16)).mono ?_
  rintro e w17 ⟨rfl, hb⟩
  have hB17 : Below w0.heap.size w0 w17 := below_thru (by go_grown) hb
  have hs17 := hB17.size
  clear hb
  clear hB16 hs16
  go_wp2_with fail
  refine (ltake_ok RN0.out isU_5 (by omega) T1 T2 IsB.none).mono ?_
  rintro e w18 ⟨vk, rfl, ho, hb⟩
  have hB18 : Below w0.heap.size w0 w18 := below_thru (by go_grown) hb
  have hs18 := hB18.size
  have Ok : Hid (OwnB w0.heap.size w18 vk ([])) := Lib.hid (ho.base (by first | omega | (simp; omega)))
  clear ho
  clear hb
  clear hB17 hs17
  obtain ⟨ak, ck, rfl, -, -, -⟩ := (show IsB w18 vk [] from Ok.out.is).openN (n := 0) rfl
  clear Ok
  go_wp2_with fail
  refine (lwait_ok RN0.out (by omega) T3 IsB.none).mono ?_
  rintro e w19 ⟨rfl, hb⟩
  have hB19 : Below w0.heap.size w0 w19 := below_thru (by go_grown) hb
  have hs19 := hB19.size
  clear hb
  clear hB18 hs18
  go_wp2_with fail
  refine (given4_any _).mono ?_
  rintro e w20 ⟨vl, rfl, ho, hb⟩
  have hB20 : Below w0.heap.size w0 w20 := below_thru (by go_grown) hb
  have hs20 := hB20.size
  have Ol : Hid (OwnB w0.heap.size w20 vl (givs)) := Lib.hid (ho.base (by first | omega | (simp; omega)))
  clear ho
  clear hb
  clear hB19 hs19
  go_wp2_with fail
  refine (lrun_is (n := 0) RG.out EN0.out L0 Z0 A0 Ol.out.is ints_nil0 ints_nil0).mono ?_
  rintro e w21 ⟨vm, um, rfl, hom, hum, hb⟩
  have hB21 : Below w0.heap.size w0 w21 := below_thru (by go_grown) hb
  have hs21 := hB21.size
  have Ol_ : Hid (OwnB w0.heap.size w21 vl (givs)) := Lib.hid (by first | exact Ol.out.below hb | exact (Ol.out.alloc _).below hb | exact ((Ol.out.alloc _).alloc _).below hb | exact (((Ol.out.alloc _).alloc _).alloc _).below hb | exact Ol.out.drew.below hb)
  clear Ol; have Ol := Ol_; clear Ol_
  clear hb
  clear hB20 hs20
  have Om : Hid (IsB w21 vm givs) := Lib.hid hom.is
  obtain ⟨am, cm, rfl, -, -, -⟩ := (IsV.own hum (bools_len _).symm).openB (n := 0) rfl
  clear hom hum
  clear Ol
  go_wp2_with fail
  refine (given4_any _).mono ?_
  rintro e w22 ⟨vn, rfl, ho, hb⟩
  have hB22 : Below w0.heap.size w0 w22 := below_thru (by go_grown) hb
  have hs22 := hB22.size
  have Om_ : Hid (IsB w22 vm givs) := Lib.hid (by first | exact Om.out.below hb | exact (Om.out.alloc _).below hb | exact ((Om.out.alloc _).alloc _).below hb | exact (((Om.out.alloc _).alloc _).alloc _).below hb | exact Om.out.drew.below hb)
  clear Om; have Om := Om_; clear Om_
  have On : Hid (OwnB w0.heap.size w22 vn (givs)) := Lib.hid (ho.base (by first | omega | (simp; omega)))
  clear ho
  clear hb
  clear hB21 hs21
  go_wp2_with fail
  refine (ltake_ok RG.out u0 (by omega) T4 T5 On.out.is).mono ?_
  rintro e w23 ⟨vo, rfl, ho, hb⟩
  have hB23 : Below w0.heap.size w0 w23 := below_thru (by go_grown) hb
  have hs23 := hB23.size
  have Om_ : Hid (IsB w23 vm givs) := Lib.hid (by first | exact Om.out.below hb | exact (Om.out.alloc _).below hb | exact ((Om.out.alloc _).alloc _).below hb | exact (((Om.out.alloc _).alloc _).alloc _).below hb | exact Om.out.drew.below hb)
  clear Om; have Om := Om_; clear Om_
  have On_ : Hid (OwnB w0.heap.size w23 vn (givs)) := Lib.hid (by first | exact On.out.below hb | exact (On.out.alloc _).below hb | exact ((On.out.alloc _).alloc _).below hb | exact (((On.out.alloc _).alloc _).alloc _).below hb | exact On.out.drew.below hb)
  clear On; have On := On_; clear On_
  have Oo : Hid (OwnB w0.heap.size w23 vo (givs)) := Lib.hid (ho.base (by first | omega | (simp; omega)))
  clear ho
  clear hb
  clear hB22 hs22
  clear On
  go_wp2_with fail
  refine (given4_any _).mono ?_
  rintro e w24 ⟨vp, rfl, ho, hb⟩
  have hB24 : Below w0.heap.size w0 w24 := below_thru (by go_grown) hb
  have hs24 := hB24.size
  have Om_ : Hid (IsB w24 vm givs) := Lib.hid (by first | exact Om.out.below hb | exact (Om.out.alloc _).below hb | exact ((Om.out.alloc _).alloc _).below hb | exact (((Om.out.alloc _).alloc _).alloc _).below hb | exact Om.out.drew.below hb)
  clear Om; have Om := Om_; clear Om_
  have Oo_ : Hid (OwnB w0.heap.size w24 vo (givs)) := Lib.hid (by first | exact Oo.out.below hb | exact (Oo.out.alloc _).below hb | exact ((Oo.out.alloc _).alloc _).below hb | exact (((Oo.out.alloc _).alloc _).alloc _).below hb | exact Oo.out.drew.below hb)
  clear Oo; have Oo := Oo_; clear Oo_
  have Op : Hid (OwnB w0.heap.size w24 vp (givs)) := Lib.hid (ho.base (by first | omega | (simp; omega)))
  clear ho
  clear hb
  clear hB23 hs23
  go_wp2_with fail
  refine (ltake_ok RG.out isU_9 (by omega) T6 T7 Op.out.is).mono ?_
  rintro e w25 ⟨vq, rfl, ho, hb⟩
  have hB25 : Below w0.heap.size w0 w25 := below_thru (by go_grown) hb
  have hs25 := hB25.size
  have Om_ : Hid (IsB w25 vm givs) := Lib.hid (by first | exact Om.out.below hb | exact (Om.out.alloc _).below hb | exact ((Om.out.alloc _).alloc _).below hb | exact (((Om.out.alloc _).alloc _).alloc _).below hb | exact Om.out.drew.below hb)
  clear Om; have Om := Om_; clear Om_
  have Oo_ : Hid (OwnB w0.heap.size w25 vo (givs)) := Lib.hid (by first | exact Oo.out.below hb | exact (Oo.out.alloc _).below hb | exact ((Oo.out.alloc _).alloc _).below hb | exact (((Oo.out.alloc _).alloc _).alloc _).below hb | exact Oo.out.drew.below hb)
  clear Oo; have Oo := Oo_; clear Oo_
  have Op_ : Hid (OwnB w0.heap.size w25 vp (givs)) := Lib.hid (by first | exact Op.out.below hb | exact (Op.out.alloc _).below hb | exact ((Op.out.alloc _).alloc _).below hb | exact (((Op.out.alloc _).alloc _).alloc _).below hb | exact Op.out.drew.below hb)
  clear Op; have Op := Op_; clear Op_
  have Oq : Hid (OwnB w0.heap.size w25 vq (keptB)) := Lib.hid (ho.base (by first | omega | (simp; omega)))
  clear ho
  clear hb
  clear hB24 hs24
  clear Op
  go_wp2_with fail
  refine (given4_any _).mono ?_
  rintro e w26 ⟨vr, rfl, ho, hb⟩
  have hB26 : Below w0.heap.size w0 w26 := below_thru (by go_grown) hb
  have hs26 := hB26.size
  have Om_ : Hid (IsB w26 vm givs) := Lib.hid (by first | exact Om.out.below hb | exact (Om.out.alloc _).below hb | exact ((Om.out.alloc _).alloc _).below hb | exact (((Om.out.alloc _).alloc _).alloc _).below hb | exact Om.out.drew.below hb)
  clear Om; have Om := Om_; clear Om_
  have Oo_ : Hid (OwnB w0.heap.size w26 vo (givs)) := Lib.hid (by first | exact Oo.out.below hb | exact (Oo.out.alloc _).below hb | exact ((Oo.out.alloc _).alloc _).below hb | exact (((Oo.out.alloc _).alloc _).alloc _).below hb | exact Oo.out.drew.below hb)
  clear Oo; have Oo := Oo_; clear Oo_
  have Oq_ : Hid (OwnB w0.heap.size w26 vq (keptB)) := Lib.hid (by first | exact Oq.out.below hb | exact (Oq.out.alloc _).below hb | exact ((Oq.out.alloc _).alloc _).below hb | exact (((Oq.out.alloc _).alloc _).alloc _).below hb | exact Oq.out.drew.below hb)
  clear Oq; have Oq := Oq_; clear Oq_
  have Or : Hid (OwnB w0.heap.size w26 vr (givs)) := Lib.hid (ho.base (by first | omega | (simp; omega)))
  clear ho
  clear hb
  clear hB25 hs25
  go_wp2_with fail
  refine (lwait_ok RG.out (by omega) T8 Or.out.is).mono ?_
  rintro e w27 ⟨rfl, hb⟩
  have hB27 : Below w0.heap.size w0 w27 := below_thru (by go_grown) hb
  have hs27 := hB27.size
  have Om_ : Hid (IsB w27 vm givs) := Lib.hid (by first | exact Om.out.below hb | exact (Om.out.alloc _).below hb | exact ((Om.out.alloc _).alloc _).below hb | exact (((Om.out.alloc _).alloc _).alloc _).below hb | exact Om.out.drew.below hb)
  clear Om; have Om := Om_; clear Om_
  have Oo_ : Hid (OwnB w0.heap.size w27 vo (givs)) := Lib.hid (by first | exact Oo.out.below hb | exact (Oo.out.alloc _).below hb | exact ((Oo.out.alloc _).alloc _).below hb | exact (((Oo.out.alloc _).alloc _).alloc _).below hb | exact Oo.out.drew.below hb)
  clear Oo; have Oo := Oo_; clear Oo_
  have Oq_ : Hid (OwnB w0.heap.size w27 vq (keptB)) := Lib.hid (by first | exact Oq.out.below hb | exact (Oq.out.alloc _).below hb | exact ((Oq.out.alloc _).alloc _).below hb | exact (((Oq.out.alloc _).alloc _).alloc _).below hb | exact Oq.out.drew.below hb)
  clear Oq; have Oq := Oq_; clear Oq_
  have Or_ : Hid (OwnB w0.heap.size w27 vr (givs)) := Lib.hid (by first | exact Or.out.below hb | exact (Or.out.alloc _).below hb | exact ((Or.out.alloc _).alloc _).below hb | exact (((Or.out.alloc _).alloc _).alloc _).below hb | exact Or.out.drew.below hb)
  clear Or; have Or := Or_; clear Or_
  clear hb
  clear hB26 hs26
  clear Or
  have Oq' : Hid (IsB w27 vq keptB) := Lib.hid Oq.out.is
  have Oo' : Hid (IsB w27 vo givs) := Lib.hid Oo.out.is
  clear Oq Oo
  go_upto_region 21 with fail
  go_cut [49, 50, 51] (fun p49 p50 p51 wx => (∃ a c, p49 = .slice a 2 c) ∧ (∃ a c, p50 = .slice a 200 c) ∧ p51 = .int .i64 0 ∧ Below w27.heap.size w27 wx)
  case first =>
    rename_i JJ KK hJJ hKK
    refine F_frame (F := fun a => Code.wp _ _ _ a _) 320 (by rfl) ?_
    intro fr hsz hfr
    have hEnd : ∀ (g211 g212 g213 x y : Value) (W : World), ((∃ a c, x = .slice a 2 c) ∧ (∃ a c, y = .slice a 200 c)) → Below w27.heap.size w27 W → KK (((((((((((fr.put (some 211) g211).put (some 212) g212).put (some 213) g213).put (some 214) (.tuple #[x, y, .int .i64 0])).put (some 210) (.tuple #[x, y, .int .i64 0])).put (some 215) (x)).put (some 216) (y)).put (some 217) (.int .i64 0)).put (some 49) (x)).put (some 50) (y)).put (some 51) (.int .i64 0)) W := by
      intro g211 g212 g213 x y W hx hB
      rw [hfr.out]
      rw [put_lit, put_lit, put_lit, put_lit, put_lit, put_lit, put_lit, put_lit, put_lit, put_lit, put_lit]
      dsimp only [List.set_cons_zero, List.set_cons_succ]
      refine hKK _ _ (Met.intro (hJJ _ _ ?_))
      (repeat apply Exists.intro)
      refine ⟨?_, rfl⟩
      obtain ⟨⟨_, _, rfl⟩, ⟨_, _, rfl⟩⟩ := hx; exact ⟨⟨_, _, rfl⟩, ⟨_, _, rfl⟩, rfl, hB⟩
    clear hfr
    refine wp_region_held_drew (S := fun _ => True) (by kernel_rfl) trivial (fun _ => ?_)
    refine F_world (F := fun W => wpAnyH _ _ _ _ _ _ _ _ W) (J := fun _ => True) trivial (Below.refl w27.heap.size w27).drew ?_
    intro W0 _ B0
    refine wpAnyH_ready (rs := [0, 1, 2]) (by kernel_rfl) (by simp) (AllReadyH.cons rfl (fun K hK => ?_) (AllReadyH.cons rfl (fun K hK => ?_) (AllReadyH.cons rfl (fun K hK => ?_) AllReadyH.nil)))
    · skip
      refine step_callH 211 rfl rfl 4 [] _ rfl [] rfl (by kernel_rfl) ?_
      refine (given4_any _).mono ?_
      rintro e W1 ⟨vg, rfl, hog, hb1⟩
      have G0 := Lib.hid hog.is
      clear hog
      have B1 := below_thru B0 hb1
      clear hb1
      refine ⟨_, rfl, hK.out _ _ trivial (fun _ => ?_)⟩; clear hK K
      refine wpAnyH_ready (rs := [1, 2]) (by kernel_rfl) (by simp) (AllReadyH.cons rfl (fun K hK => ?_) (AllReadyH.cons rfl (fun K hK => ?_) AllReadyH.nil))
      · skip
        refine step_makeH 212 rfl rfl _ _ _ rfl (mk200 _) ?_
        refine hK.out _ _ trivial (fun _ => ?_); clear hK K
        refine F_world (F := fun W => wpAnyH _ _ _ _ _ _ _ _ W) (J := fun W => Ints W .u64 (some ⟨W1.heap.size, 0, none⟩) 200 (zn 200)) (iz200 rfl) ((Below.refl _ _).alloc (Nat.le_refl _) _) ?_
        intro W2 i2 hb2
        have M0 := Lib.hid i2
        clear i2
        have G2 := Lib.hid (G0.out.below hb2)
        have B2 := below_thru B1 hb2
        clear hb2
        refine wpAnyH_ready (rs := [2]) (by kernel_rfl) (by simp) (AllReadyH.cons rfl (fun K hK => ?_) AllReadyH.nil)
        refine step_makeH 213 rfl rfl _ _ _ rfl (mkc200 _) ?_
        refine hK.out _ _ trivial (fun _ => ?_); clear hK K
        refine F_world (F := fun W => wpAnyH _ _ _ _ _ _ _ _ W) (J := fun W => Ints W .i64 (some ⟨W2.heap.size, 0, none⟩) 200 (zn 200)) (ic200 rfl) ((Below.refl _ _).alloc (Nat.le_refl _) _) ?_
        intro W3 i3 hb3
        have N0 := Lib.hid i3
        clear i3
        have G3 := Lib.hid (G2.out.below hb3)
        have M3 := Lib.hid (M0.out.below hb3)
        have B3 := below_thru B2 hb3
        clear hb3
        refine wpAnyH_ready (rs := [3]) (by kernel_rfl) (by simp) (AllReadyH.cons rfl (fun K hK => ?_) AllReadyH.nil)
        refine step_callH 214 rfl rfl 9 _ _ rfl [vg, .slice (some ⟨W1.heap.size, 0, none⟩) 200 200, .slice (some ⟨W2.heap.size, 0, none⟩) 200 200] (by simp [ev_same, ev_ne, put_size, hsz]) (by kernel_rfl) ?_
        refine (run200 Z200 A200 G3.out M3.out N0.out).mono ?_
        rintro e W4 ⟨vr, ur, rfl, hor, hur, hb4⟩
        obtain ⟨ar, cr, rfl, _, _, _⟩ := hor.is.openN (n := 2) ZL.out
        obtain ⟨as', cs', rfl, _, _, _⟩ := (IsV.own hur (bools_len _).symm).openB (n := 200) AL.out
        clear hor hur
        have B4 := below_thru B3 hb4
        refine ⟨_, rfl, hK.out _ _ trivial (fun _ => ?_)⟩; clear hK K
        refine takeH 4 210 (v := .tuple #[.slice ar 2 cr, .slice as' 200 cs', .int .i64 0]) rfl (by rfl) (by kernel_rfl) (by kernel_rfl) (by kernel_rfl) (fun _ _ _ h => h) (Or.inl ⟨by rfl, ?_⟩) trivial ?_
        · intro wq hSq
          simp [execOp, hsz, go_sem]
        refine takeH 5 215 (v := .slice ar 2 cr) rfl (by rfl) (by kernel_rfl) (by kernel_rfl) (by kernel_rfl) (fun _ _ _ h => h) (Or.inl ⟨by rfl, ?_⟩) trivial ?_
        · intro wq hSq
          simp [execOp, hsz, go_sem]
        refine takeH 6 216 (v := .slice as' 200 cs') rfl (by rfl) (by kernel_rfl) (by kernel_rfl) (by kernel_rfl) (fun _ _ _ h => h) (Or.inl ⟨by rfl, ?_⟩) trivial ?_
        · intro wq hSq
          simp [execOp, hsz, go_sem]
        refine takeH 7 217 (v := .int .i64 0) rfl (by rfl) (by kernel_rfl) (by kernel_rfl) (by kernel_rfl) (fun _ _ _ h => h) (Or.inl ⟨by rfl, ?_⟩) trivial ?_
        · intro wq hSq
          simp [execOp, hsz, go_sem]
        refine takeH 8 49 (v := .slice ar 2 cr) rfl (by rfl) (by kernel_rfl) (by kernel_rfl) (by kernel_rfl) (fun _ _ _ h => h) (Or.inl ⟨by rfl, ?_⟩) trivial ?_
        · intro wq hSq
          simp [execOp, hsz, go_sem]
        refine takeH 9 50 (v := .slice as' 200 cs') rfl (by rfl) (by kernel_rfl) (by kernel_rfl) (by kernel_rfl) (fun _ _ _ h => h) (Or.inl ⟨by rfl, ?_⟩) trivial ?_
        · intro wq hSq
          simp [execOp, hsz, go_sem]
        refine takeH 10 51 (v := .int .i64 0) rfl (by rfl) (by kernel_rfl) (by kernel_rfl) (by kernel_rfl) (fun _ _ _ h => h) (Or.inl ⟨by rfl, ?_⟩) trivial ?_
        · intro wq hSq
          simp [execOp, hsz, go_sem]
        refine wpAnyH_done (by kernel_rfl) ?_ _
        exact hEnd _ _ _ _ _ _ ⟨⟨_, _, rfl⟩, ⟨_, _, rfl⟩⟩ B4
      · skip
        refine step_makeH 213 rfl rfl _ _ _ rfl (mkc200 _) ?_
        refine hK.out _ _ trivial (fun _ => ?_); clear hK K
        refine F_world (F := fun W => wpAnyH _ _ _ _ _ _ _ _ W) (J := fun W => Ints W .i64 (some ⟨W1.heap.size, 0, none⟩) 200 (zn 200)) (ic200 rfl) ((Below.refl _ _).alloc (Nat.le_refl _) _) ?_
        intro W5 i5 hb5
        have N0 := Lib.hid i5
        clear i5
        have G5 := Lib.hid (G0.out.below hb5)
        have B5 := below_thru B1 hb5
        clear hb5
        refine wpAnyH_ready (rs := [1]) (by kernel_rfl) (by simp) (AllReadyH.cons rfl (fun K hK => ?_) AllReadyH.nil)
        refine step_makeH 212 rfl rfl _ _ _ rfl (mk200 _) ?_
        refine hK.out _ _ trivial (fun _ => ?_); clear hK K
        refine F_world (F := fun W => wpAnyH _ _ _ _ _ _ _ _ W) (J := fun W => Ints W .u64 (some ⟨W5.heap.size, 0, none⟩) 200 (zn 200)) (iz200 rfl) ((Below.refl _ _).alloc (Nat.le_refl _) _) ?_
        intro W6 i6 hb6
        have M0 := Lib.hid i6
        clear i6
        have G6 := Lib.hid (G5.out.below hb6)
        have N6 := Lib.hid (N0.out.below hb6)
        have B6 := below_thru B5 hb6
        clear hb6
        refine wpAnyH_ready (rs := [3]) (by kernel_rfl) (by simp) (AllReadyH.cons rfl (fun K hK => ?_) AllReadyH.nil)
        rw [put_comm 213 212 (by decide)]
        refine step_callH 214 rfl rfl 9 _ _ rfl [vg, .slice (some ⟨W5.heap.size, 0, none⟩) 200 200, .slice (some ⟨W1.heap.size, 0, none⟩) 200 200] (by simp [ev_same, ev_ne, put_size, hsz]) (by kernel_rfl) ?_
        refine (run200 Z200 A200 G6.out M0.out N6.out).mono ?_
        rintro e W7 ⟨vr, ur, rfl, hor, hur, hb7⟩
        obtain ⟨ar, cr, rfl, _, _, _⟩ := hor.is.openN (n := 2) ZL.out
        obtain ⟨as', cs', rfl, _, _, _⟩ := (IsV.own hur (bools_len _).symm).openB (n := 200) AL.out
        clear hor hur
        have B7 := below_thru B6 hb7
        refine ⟨_, rfl, hK.out _ _ trivial (fun _ => ?_)⟩; clear hK K
        refine takeH 4 210 (v := .tuple #[.slice ar 2 cr, .slice as' 200 cs', .int .i64 0]) rfl (by rfl) (by kernel_rfl) (by kernel_rfl) (by kernel_rfl) (fun _ _ _ h => h) (Or.inl ⟨by rfl, ?_⟩) trivial ?_
        · intro wq hSq
          simp [execOp, hsz, go_sem]
        refine takeH 5 215 (v := .slice ar 2 cr) rfl (by rfl) (by kernel_rfl) (by kernel_rfl) (by kernel_rfl) (fun _ _ _ h => h) (Or.inl ⟨by rfl, ?_⟩) trivial ?_
        · intro wq hSq
          simp [execOp, hsz, go_sem]
        refine takeH 6 216 (v := .slice as' 200 cs') rfl (by rfl) (by kernel_rfl) (by kernel_rfl) (by kernel_rfl) (fun _ _ _ h => h) (Or.inl ⟨by rfl, ?_⟩) trivial ?_
        · intro wq hSq
          simp [execOp, hsz, go_sem]
        refine takeH 7 217 (v := .int .i64 0) rfl (by rfl) (by kernel_rfl) (by kernel_rfl) (by kernel_rfl) (fun _ _ _ h => h) (Or.inl ⟨by rfl, ?_⟩) trivial ?_
        · intro wq hSq
          simp [execOp, hsz, go_sem]
        refine takeH 8 49 (v := .slice ar 2 cr) rfl (by rfl) (by kernel_rfl) (by kernel_rfl) (by kernel_rfl) (fun _ _ _ h => h) (Or.inl ⟨by rfl, ?_⟩) trivial ?_
        · intro wq hSq
          simp [execOp, hsz, go_sem]
        refine takeH 9 50 (v := .slice as' 200 cs') rfl (by rfl) (by kernel_rfl) (by kernel_rfl) (by kernel_rfl) (fun _ _ _ h => h) (Or.inl ⟨by rfl, ?_⟩) trivial ?_
        · intro wq hSq
          simp [execOp, hsz, go_sem]
        refine takeH 10 51 (v := .int .i64 0) rfl (by rfl) (by kernel_rfl) (by kernel_rfl) (by kernel_rfl) (fun _ _ _ h => h) (Or.inl ⟨by rfl, ?_⟩) trivial ?_
        · intro wq hSq
          simp [execOp, hsz, go_sem]
        refine wpAnyH_done (by kernel_rfl) ?_ _
        exact hEnd _ _ _ _ _ _ ⟨⟨_, _, rfl⟩, ⟨_, _, rfl⟩⟩ B7
    · skip
      refine step_makeH 212 rfl rfl _ _ _ rfl (mk200 _) ?_
      refine hK.out _ _ trivial (fun _ => ?_); clear hK K
      refine F_world (F := fun W => wpAnyH _ _ _ _ _ _ _ _ W) (J := fun W => Ints W .u64 (some ⟨W0.heap.size, 0, none⟩) 200 (zn 200)) (iz200 rfl) ((Below.refl _ _).alloc (Nat.le_refl _) _) ?_
      intro W8 i8 hb8
      have M0 := Lib.hid i8
      clear i8
      have B8 := below_thru B0 hb8
      clear hb8
      refine wpAnyH_ready (rs := [0, 2]) (by kernel_rfl) (by simp) (AllReadyH.cons rfl (fun K hK => ?_) (AllReadyH.cons rfl (fun K hK => ?_) AllReadyH.nil))
      · skip
        refine step_callH 211 rfl rfl 4 [] _ rfl [] rfl (by kernel_rfl) ?_
        refine (given4_any _).mono ?_
        rintro e W9 ⟨vg, rfl, hog, hb9⟩
        have G0 := Lib.hid hog.is
        clear hog
        have M9 := Lib.hid (M0.out.below hb9)
        have B9 := below_thru B8 hb9
        clear hb9
        refine ⟨_, rfl, hK.out _ _ trivial (fun _ => ?_)⟩; clear hK K
        refine wpAnyH_ready (rs := [2]) (by kernel_rfl) (by simp) (AllReadyH.cons rfl (fun K hK => ?_) AllReadyH.nil)
        refine step_makeH 213 rfl rfl _ _ _ rfl (mkc200 _) ?_
        refine hK.out _ _ trivial (fun _ => ?_); clear hK K
        refine F_world (F := fun W => wpAnyH _ _ _ _ _ _ _ _ W) (J := fun W => Ints W .i64 (some ⟨W9.heap.size, 0, none⟩) 200 (zn 200)) (ic200 rfl) ((Below.refl _ _).alloc (Nat.le_refl _) _) ?_
        intro W10 i10 hb10
        have N0 := Lib.hid i10
        clear i10
        have M10 := Lib.hid (M9.out.below hb10)
        have G10 := Lib.hid (G0.out.below hb10)
        have B10 := below_thru B9 hb10
        clear hb10
        refine wpAnyH_ready (rs := [3]) (by kernel_rfl) (by simp) (AllReadyH.cons rfl (fun K hK => ?_) AllReadyH.nil)
        rw [put_comm 212 211 (by decide)]
        refine step_callH 214 rfl rfl 9 _ _ rfl [vg, .slice (some ⟨W0.heap.size, 0, none⟩) 200 200, .slice (some ⟨W9.heap.size, 0, none⟩) 200 200] (by simp [ev_same, ev_ne, put_size, hsz]) (by kernel_rfl) ?_
        refine (run200 Z200 A200 G10.out M10.out N0.out).mono ?_
        rintro e W11 ⟨vr, ur, rfl, hor, hur, hb11⟩
        obtain ⟨ar, cr, rfl, _, _, _⟩ := hor.is.openN (n := 2) ZL.out
        obtain ⟨as', cs', rfl, _, _, _⟩ := (IsV.own hur (bools_len _).symm).openB (n := 200) AL.out
        clear hor hur
        have B11 := below_thru B10 hb11
        refine ⟨_, rfl, hK.out _ _ trivial (fun _ => ?_)⟩; clear hK K
        refine takeH 4 210 (v := .tuple #[.slice ar 2 cr, .slice as' 200 cs', .int .i64 0]) rfl (by rfl) (by kernel_rfl) (by kernel_rfl) (by kernel_rfl) (fun _ _ _ h => h) (Or.inl ⟨by rfl, ?_⟩) trivial ?_
        · intro wq hSq
          simp [execOp, hsz, go_sem]
        refine takeH 5 215 (v := .slice ar 2 cr) rfl (by rfl) (by kernel_rfl) (by kernel_rfl) (by kernel_rfl) (fun _ _ _ h => h) (Or.inl ⟨by rfl, ?_⟩) trivial ?_
        · intro wq hSq
          simp [execOp, hsz, go_sem]
        refine takeH 6 216 (v := .slice as' 200 cs') rfl (by rfl) (by kernel_rfl) (by kernel_rfl) (by kernel_rfl) (fun _ _ _ h => h) (Or.inl ⟨by rfl, ?_⟩) trivial ?_
        · intro wq hSq
          simp [execOp, hsz, go_sem]
        refine takeH 7 217 (v := .int .i64 0) rfl (by rfl) (by kernel_rfl) (by kernel_rfl) (by kernel_rfl) (fun _ _ _ h => h) (Or.inl ⟨by rfl, ?_⟩) trivial ?_
        · intro wq hSq
          simp [execOp, hsz, go_sem]
        refine takeH 8 49 (v := .slice ar 2 cr) rfl (by rfl) (by kernel_rfl) (by kernel_rfl) (by kernel_rfl) (fun _ _ _ h => h) (Or.inl ⟨by rfl, ?_⟩) trivial ?_
        · intro wq hSq
          simp [execOp, hsz, go_sem]
        refine takeH 9 50 (v := .slice as' 200 cs') rfl (by rfl) (by kernel_rfl) (by kernel_rfl) (by kernel_rfl) (fun _ _ _ h => h) (Or.inl ⟨by rfl, ?_⟩) trivial ?_
        · intro wq hSq
          simp [execOp, hsz, go_sem]
        refine takeH 10 51 (v := .int .i64 0) rfl (by rfl) (by kernel_rfl) (by kernel_rfl) (by kernel_rfl) (fun _ _ _ h => h) (Or.inl ⟨by rfl, ?_⟩) trivial ?_
        · intro wq hSq
          simp [execOp, hsz, go_sem]
        refine wpAnyH_done (by kernel_rfl) ?_ _
        exact hEnd _ _ _ _ _ _ ⟨⟨_, _, rfl⟩, ⟨_, _, rfl⟩⟩ B11
      · skip
        refine step_makeH 213 rfl rfl _ _ _ rfl (mkc200 _) ?_
        refine hK.out _ _ trivial (fun _ => ?_); clear hK K
        refine F_world (F := fun W => wpAnyH _ _ _ _ _ _ _ _ W) (J := fun W => Ints W .i64 (some ⟨W8.heap.size, 0, none⟩) 200 (zn 200)) (ic200 rfl) ((Below.refl _ _).alloc (Nat.le_refl _) _) ?_
        intro W12 i12 hb12
        have N0 := Lib.hid i12
        clear i12
        have M12 := Lib.hid (M0.out.below hb12)
        have B12 := below_thru B8 hb12
        clear hb12
        refine wpAnyH_ready (rs := [0]) (by kernel_rfl) (by simp) (AllReadyH.cons rfl (fun K hK => ?_) AllReadyH.nil)
        refine step_callH 211 rfl rfl 4 [] _ rfl [] rfl (by kernel_rfl) ?_
        refine (given4_any _).mono ?_
        rintro e W13 ⟨vg, rfl, hog, hb13⟩
        have G0 := Lib.hid hog.is
        clear hog
        have M13 := Lib.hid (M12.out.below hb13)
        have N13 := Lib.hid (N0.out.below hb13)
        have B13 := below_thru B12 hb13
        clear hb13
        refine ⟨_, rfl, hK.out _ _ trivial (fun _ => ?_)⟩; clear hK K
        refine wpAnyH_ready (rs := [3]) (by kernel_rfl) (by simp) (AllReadyH.cons rfl (fun K hK => ?_) AllReadyH.nil)
        rw [put_comm 213 211 (by decide)]
        rw [put_comm 212 211 (by decide)]
        refine step_callH 214 rfl rfl 9 _ _ rfl [vg, .slice (some ⟨W0.heap.size, 0, none⟩) 200 200, .slice (some ⟨W8.heap.size, 0, none⟩) 200 200] (by simp [ev_same, ev_ne, put_size, hsz]) (by kernel_rfl) ?_
        refine (run200 Z200 A200 G0.out M13.out N13.out).mono ?_
        rintro e W14 ⟨vr, ur, rfl, hor, hur, hb14⟩
        obtain ⟨ar, cr, rfl, _, _, _⟩ := hor.is.openN (n := 2) ZL.out
        obtain ⟨as', cs', rfl, _, _, _⟩ := (IsV.own hur (bools_len _).symm).openB (n := 200) AL.out
        clear hor hur
        have B14 := below_thru B13 hb14
        refine ⟨_, rfl, hK.out _ _ trivial (fun _ => ?_)⟩; clear hK K
        refine takeH 4 210 (v := .tuple #[.slice ar 2 cr, .slice as' 200 cs', .int .i64 0]) rfl (by rfl) (by kernel_rfl) (by kernel_rfl) (by kernel_rfl) (fun _ _ _ h => h) (Or.inl ⟨by rfl, ?_⟩) trivial ?_
        · intro wq hSq
          simp [execOp, hsz, go_sem]
        refine takeH 5 215 (v := .slice ar 2 cr) rfl (by rfl) (by kernel_rfl) (by kernel_rfl) (by kernel_rfl) (fun _ _ _ h => h) (Or.inl ⟨by rfl, ?_⟩) trivial ?_
        · intro wq hSq
          simp [execOp, hsz, go_sem]
        refine takeH 6 216 (v := .slice as' 200 cs') rfl (by rfl) (by kernel_rfl) (by kernel_rfl) (by kernel_rfl) (fun _ _ _ h => h) (Or.inl ⟨by rfl, ?_⟩) trivial ?_
        · intro wq hSq
          simp [execOp, hsz, go_sem]
        refine takeH 7 217 (v := .int .i64 0) rfl (by rfl) (by kernel_rfl) (by kernel_rfl) (by kernel_rfl) (fun _ _ _ h => h) (Or.inl ⟨by rfl, ?_⟩) trivial ?_
        · intro wq hSq
          simp [execOp, hsz, go_sem]
        refine takeH 8 49 (v := .slice ar 2 cr) rfl (by rfl) (by kernel_rfl) (by kernel_rfl) (by kernel_rfl) (fun _ _ _ h => h) (Or.inl ⟨by rfl, ?_⟩) trivial ?_
        · intro wq hSq
          simp [execOp, hsz, go_sem]
        refine takeH 9 50 (v := .slice as' 200 cs') rfl (by rfl) (by kernel_rfl) (by kernel_rfl) (by kernel_rfl) (fun _ _ _ h => h) (Or.inl ⟨by rfl, ?_⟩) trivial ?_
        · intro wq hSq
          simp [execOp, hsz, go_sem]
        refine takeH 10 51 (v := .int .i64 0) rfl (by rfl) (by kernel_rfl) (by kernel_rfl) (by kernel_rfl) (fun _ _ _ h => h) (Or.inl ⟨by rfl, ?_⟩) trivial ?_
        · intro wq hSq
          simp [execOp, hsz, go_sem]
        refine wpAnyH_done (by kernel_rfl) ?_ _
        exact hEnd _ _ _ _ _ _ ⟨⟨_, _, rfl⟩, ⟨_, _, rfl⟩⟩ B14
    · skip
      refine step_makeH 213 rfl rfl _ _ _ rfl (mkc200 _) ?_
      refine hK.out _ _ trivial (fun _ => ?_); clear hK K
      refine F_world (F := fun W => wpAnyH _ _ _ _ _ _ _ _ W) (J := fun W => Ints W .i64 (some ⟨W0.heap.size, 0, none⟩) 200 (zn 200)) (ic200 rfl) ((Below.refl _ _).alloc (Nat.le_refl _) _) ?_
      intro W15 i15 hb15
      have N0 := Lib.hid i15
      clear i15
      have B15 := below_thru B0 hb15
      clear hb15
      refine wpAnyH_ready (rs := [0, 1]) (by kernel_rfl) (by simp) (AllReadyH.cons rfl (fun K hK => ?_) (AllReadyH.cons rfl (fun K hK => ?_) AllReadyH.nil))
      · skip
        refine step_callH 211 rfl rfl 4 [] _ rfl [] rfl (by kernel_rfl) ?_
        refine (given4_any _).mono ?_
        rintro e W16 ⟨vg, rfl, hog, hb16⟩
        have G0 := Lib.hid hog.is
        clear hog
        have N16 := Lib.hid (N0.out.below hb16)
        have B16 := below_thru B15 hb16
        clear hb16
        refine ⟨_, rfl, hK.out _ _ trivial (fun _ => ?_)⟩; clear hK K
        refine wpAnyH_ready (rs := [1]) (by kernel_rfl) (by simp) (AllReadyH.cons rfl (fun K hK => ?_) AllReadyH.nil)
        refine step_makeH 212 rfl rfl _ _ _ rfl (mk200 _) ?_
        refine hK.out _ _ trivial (fun _ => ?_); clear hK K
        refine F_world (F := fun W => wpAnyH _ _ _ _ _ _ _ _ W) (J := fun W => Ints W .u64 (some ⟨W16.heap.size, 0, none⟩) 200 (zn 200)) (iz200 rfl) ((Below.refl _ _).alloc (Nat.le_refl _) _) ?_
        intro W17 i17 hb17
        have M0 := Lib.hid i17
        clear i17
        have N17 := Lib.hid (N16.out.below hb17)
        have G17 := Lib.hid (G0.out.below hb17)
        have B17 := below_thru B16 hb17
        clear hb17
        refine wpAnyH_ready (rs := [3]) (by kernel_rfl) (by simp) (AllReadyH.cons rfl (fun K hK => ?_) AllReadyH.nil)
        rw [put_comm 213 211 (by decide)]
        rw [put_comm 213 212 (by decide)]
        refine step_callH 214 rfl rfl 9 _ _ rfl [vg, .slice (some ⟨W16.heap.size, 0, none⟩) 200 200, .slice (some ⟨W0.heap.size, 0, none⟩) 200 200] (by simp [ev_same, ev_ne, put_size, hsz]) (by kernel_rfl) ?_
        refine (run200 Z200 A200 G17.out M0.out N17.out).mono ?_
        rintro e W18 ⟨vr, ur, rfl, hor, hur, hb18⟩
        obtain ⟨ar, cr, rfl, _, _, _⟩ := hor.is.openN (n := 2) ZL.out
        obtain ⟨as', cs', rfl, _, _, _⟩ := (IsV.own hur (bools_len _).symm).openB (n := 200) AL.out
        clear hor hur
        have B18 := below_thru B17 hb18
        refine ⟨_, rfl, hK.out _ _ trivial (fun _ => ?_)⟩; clear hK K
        refine takeH 4 210 (v := .tuple #[.slice ar 2 cr, .slice as' 200 cs', .int .i64 0]) rfl (by rfl) (by kernel_rfl) (by kernel_rfl) (by kernel_rfl) (fun _ _ _ h => h) (Or.inl ⟨by rfl, ?_⟩) trivial ?_
        · intro wq hSq
          simp [execOp, hsz, go_sem]
        refine takeH 5 215 (v := .slice ar 2 cr) rfl (by rfl) (by kernel_rfl) (by kernel_rfl) (by kernel_rfl) (fun _ _ _ h => h) (Or.inl ⟨by rfl, ?_⟩) trivial ?_
        · intro wq hSq
          simp [execOp, hsz, go_sem]
        refine takeH 6 216 (v := .slice as' 200 cs') rfl (by rfl) (by kernel_rfl) (by kernel_rfl) (by kernel_rfl) (fun _ _ _ h => h) (Or.inl ⟨by rfl, ?_⟩) trivial ?_
        · intro wq hSq
          simp [execOp, hsz, go_sem]
        refine takeH 7 217 (v := .int .i64 0) rfl (by rfl) (by kernel_rfl) (by kernel_rfl) (by kernel_rfl) (fun _ _ _ h => h) (Or.inl ⟨by rfl, ?_⟩) trivial ?_
        · intro wq hSq
          simp [execOp, hsz, go_sem]
        refine takeH 8 49 (v := .slice ar 2 cr) rfl (by rfl) (by kernel_rfl) (by kernel_rfl) (by kernel_rfl) (fun _ _ _ h => h) (Or.inl ⟨by rfl, ?_⟩) trivial ?_
        · intro wq hSq
          simp [execOp, hsz, go_sem]
        refine takeH 9 50 (v := .slice as' 200 cs') rfl (by rfl) (by kernel_rfl) (by kernel_rfl) (by kernel_rfl) (fun _ _ _ h => h) (Or.inl ⟨by rfl, ?_⟩) trivial ?_
        · intro wq hSq
          simp [execOp, hsz, go_sem]
        refine takeH 10 51 (v := .int .i64 0) rfl (by rfl) (by kernel_rfl) (by kernel_rfl) (by kernel_rfl) (fun _ _ _ h => h) (Or.inl ⟨by rfl, ?_⟩) trivial ?_
        · intro wq hSq
          simp [execOp, hsz, go_sem]
        refine wpAnyH_done (by kernel_rfl) ?_ _
        exact hEnd _ _ _ _ _ _ ⟨⟨_, _, rfl⟩, ⟨_, _, rfl⟩⟩ B18
      · skip
        refine step_makeH 212 rfl rfl _ _ _ rfl (mk200 _) ?_
        refine hK.out _ _ trivial (fun _ => ?_); clear hK K
        refine F_world (F := fun W => wpAnyH _ _ _ _ _ _ _ _ W) (J := fun W => Ints W .u64 (some ⟨W15.heap.size, 0, none⟩) 200 (zn 200)) (iz200 rfl) ((Below.refl _ _).alloc (Nat.le_refl _) _) ?_
        intro W19 i19 hb19
        have M0 := Lib.hid i19
        clear i19
        have N19 := Lib.hid (N0.out.below hb19)
        have B19 := below_thru B15 hb19
        clear hb19
        refine wpAnyH_ready (rs := [0]) (by kernel_rfl) (by simp) (AllReadyH.cons rfl (fun K hK => ?_) AllReadyH.nil)
        refine step_callH 211 rfl rfl 4 [] _ rfl [] rfl (by kernel_rfl) ?_
        refine (given4_any _).mono ?_
        rintro e W20 ⟨vg, rfl, hog, hb20⟩
        have G0 := Lib.hid hog.is
        clear hog
        have N20 := Lib.hid (N19.out.below hb20)
        have M20 := Lib.hid (M0.out.below hb20)
        have B20 := below_thru B19 hb20
        clear hb20
        refine ⟨_, rfl, hK.out _ _ trivial (fun _ => ?_)⟩; clear hK K
        refine wpAnyH_ready (rs := [3]) (by kernel_rfl) (by simp) (AllReadyH.cons rfl (fun K hK => ?_) AllReadyH.nil)
        rw [put_comm 213 212 (by decide)]
        rw [put_comm 213 211 (by decide)]
        rw [put_comm 212 211 (by decide)]
        refine step_callH 214 rfl rfl 9 _ _ rfl [vg, .slice (some ⟨W15.heap.size, 0, none⟩) 200 200, .slice (some ⟨W0.heap.size, 0, none⟩) 200 200] (by simp [ev_same, ev_ne, put_size, hsz]) (by kernel_rfl) ?_
        refine (run200 Z200 A200 G0.out M20.out N20.out).mono ?_
        rintro e W21 ⟨vr, ur, rfl, hor, hur, hb21⟩
        obtain ⟨ar, cr, rfl, _, _, _⟩ := hor.is.openN (n := 2) ZL.out
        obtain ⟨as', cs', rfl, _, _, _⟩ := (IsV.own hur (bools_len _).symm).openB (n := 200) AL.out
        clear hor hur
        have B21 := below_thru B20 hb21
        refine ⟨_, rfl, hK.out _ _ trivial (fun _ => ?_)⟩; clear hK K
        refine takeH 4 210 (v := .tuple #[.slice ar 2 cr, .slice as' 200 cs', .int .i64 0]) rfl (by rfl) (by kernel_rfl) (by kernel_rfl) (by kernel_rfl) (fun _ _ _ h => h) (Or.inl ⟨by rfl, ?_⟩) trivial ?_
        · intro wq hSq
          simp [execOp, hsz, go_sem]
        refine takeH 5 215 (v := .slice ar 2 cr) rfl (by rfl) (by kernel_rfl) (by kernel_rfl) (by kernel_rfl) (fun _ _ _ h => h) (Or.inl ⟨by rfl, ?_⟩) trivial ?_
        · intro wq hSq
          simp [execOp, hsz, go_sem]
        refine takeH 6 216 (v := .slice as' 200 cs') rfl (by rfl) (by kernel_rfl) (by kernel_rfl) (by kernel_rfl) (fun _ _ _ h => h) (Or.inl ⟨by rfl, ?_⟩) trivial ?_
        · intro wq hSq
          simp [execOp, hsz, go_sem]
        refine takeH 7 217 (v := .int .i64 0) rfl (by rfl) (by kernel_rfl) (by kernel_rfl) (by kernel_rfl) (fun _ _ _ h => h) (Or.inl ⟨by rfl, ?_⟩) trivial ?_
        · intro wq hSq
          simp [execOp, hsz, go_sem]
        refine takeH 8 49 (v := .slice ar 2 cr) rfl (by rfl) (by kernel_rfl) (by kernel_rfl) (by kernel_rfl) (fun _ _ _ h => h) (Or.inl ⟨by rfl, ?_⟩) trivial ?_
        · intro wq hSq
          simp [execOp, hsz, go_sem]
        refine takeH 9 50 (v := .slice as' 200 cs') rfl (by rfl) (by kernel_rfl) (by kernel_rfl) (by kernel_rfl) (fun _ _ _ h => h) (Or.inl ⟨by rfl, ?_⟩) trivial ?_
        · intro wq hSq
          simp [execOp, hsz, go_sem]
        refine takeH 10 51 (v := .int .i64 0) rfl (by rfl) (by kernel_rfl) (by kernel_rfl) (by kernel_rfl) (fun _ _ _ h => h) (Or.inl ⟨by rfl, ?_⟩) trivial ?_
        · intro wq hSq
          simp [execOp, hsz, go_sem]
        refine wpAnyH_done (by kernel_rfl) ?_ _
        exact hEnd _ _ _ _ _ _ ⟨⟨_, _, rfl⟩, ⟨_, _, rfl⟩⟩ B21
  case rest =>
    obtain ⟨⟨a49, c49, rfl⟩, ⟨a50, c50, rfl⟩, rfl, hcb⟩ := hcut
    obtain ⟨w28, rfl⟩ : ∃ u : World, u = wc := ⟨_, rfl⟩
    have hB28 : Below w0.heap.size w0 w28 := hB27.trans (hcb.mono hs27)
    have hs28 := hB28.size
    have Om2 := Lib.hid (Om.out.below hcb)
    have Oq2 := Lib.hid (Oq'.out.below hcb)
    have Oo2 := Lib.hid (Oo'.out.below hcb)
    clear MANY0 BAD0 hB27 hs27
    clear hcb Om Oq' Oo'
    rename_i K0 hK0
    refine hK0 _ _ ?_
    clear hK0 K0
    show Code.wp Try.prog _ (bodyPost Try.prog Try.f3 fun e w' => e = .returned (.bool true) ∧ Below w.heap.size w w') _ _
    revert wa w0 hBw hsw va vc vd vf xa ya u20 u21 u23 u24 xb yb u29 u30 ak ck vm am cm vo vq u53 u54 u55 u56 u57 u58 u59 u60 u61 u62 u63 u64 u65 u66 u67 u68 u69 u70 u71 u72 u73 u74 u75 u76 u77 u78 u79 u80 u81 u82 u83 u84 u85 u86 u87 u88 u89 u90 u91 u92 u93 u94 u95 u96 u97 u98 u99 u100 u101 u102 u103 u104 u105 u106 u107 u108 u109 u110 u111 u112 u113 u114 u115 u116 u117 u118 u119 u120 u121 u122 u123 u124 u125 u126 u127 u128 u129 u130 u131 u132 u133 u134 u135 u136 u137 u138 u139 u140 u141 u142 u143 u144 u145 u146 u147 u148 u149 u150 u151 u152 u153 u154 u155 u156 u157 u158 u159 u160 u161 u162 u163 u164 u165 u166 u167 u168 u169 u170 u171 u172 u173 u174 u175 u176 u177 u178 u179 u180 u181 u182 u183 u184 u185 u186 u187 u188 u189 u190 u191 u192 u193 u194 u195 u196 u197 u198 u199 u200 u201 u202 u203 u204 u205 u206 u207 u208 u209 u210 u211 u212 u213 u214 u215 u216 u217 u218 u219 u220 u221 u222 u223 u224 u225 u226 u227 u228 u229 u230 u231 u232 u233 u234 u235 u236 u237 u238 u239 u240 u241 u242 u243 u244 u245 u246 u247 u248 u249 u250 u251 u252 u253 u254 u255 u256 u257 u258 u259 u260 u261 u262 u263 u264 u265 u266 u267 u268 u269 u270 u271 u272 u273 u274 u275 u276 u277 u278 u279 u280 u281 u282 u283 u284 u285 u286 u287 u288 u289 u290 u291 u292 u293 u294 u295 u296 u297 u298 u299 u300 u301 u302 u303 u304 u305 u306 u307 u308 u309 u310 u311 u312 u313 u314 u315 u316 u317 u318 u319 a49 c49 a50 c50 w28 hB28 hs28 Om2 Oq2 Oo2
    exact hG.out⟩

end Go.Proofs.Ytegbcagcfmijcaa
