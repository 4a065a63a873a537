/-
  LevelsNames, walked over the contracts of package levels: piece C.
-/
import Derived.Test.YtegbcagcfmijcaaNames04B
namespace Go.Proofs.Ytegbcagcfmijcaa
open Go.RowKit

set_option maxRecDepth 100000 in
set_option maxHeartbeats 25600000 in
def names04_p3 (w : World) : PSigma fun G : Prop => (Later G → (names04_p2 w).1) := ⟨_, fun hG => by
  have m1 := mk1
  have m2 := mk200
  have m3 := mk201
  have m4 := mkc200
  have m5 := mkb9
  have EM := Lib.hid manyB_e
  have EB := Lib.hid badB_e
  have EBA := Lib.hid badB_a
  have EGA := Lib.hid givs_a
  have RM := Lib.hid r_many
  have R2 := Lib.hid r_201
  have R3 := Lib.hid r_1
  have R4 := Lib.hid r_neg
  have R5 := Lib.hid r_1neg
  have RN0 := Lib.hid row_nil
  have RG := Lib.hid givs_row
  have T1 := Lib.hid tak_nil
  have T2 := Lib.hid tak_nilB
  have T3 := Lib.hid wts_nil
  have T4 := Lib.hid tak_00
  have T5 := Lib.hid tak_00B
  have T6 := Lib.hid tak_96
  have T7 := Lib.hid tak_96B
  have T8 := Lib.hid wts_6
  have EN0 := Lib.hid ent_nil
  have E200 := Lib.hid ent_200
  have L0 : Hid (([] : List Int).length = 0) := Lib.hid rfl
  have Z0 : Hid (runR givs [] [] 0 = givs) := Lib.hid rfl
  have A0 : Hid (runA givs [] [] 0 = []) := Lib.hid rfl
  have L200 := Lib.hid (zn_len 200)
  obtain ⟨zs, ezs⟩ : ∃ y, runR givs (zn 200) (zn 200) 200 = y := ⟨_, rfl⟩
  obtain ⟨aa, eaa⟩ : ∃ y, runA givs (zn 200) (zn 200) 200 = y := ⟨_, rfl⟩
  have Z200 := Lib.hid ezs
  have A200 := Lib.hid eaa
  have ZL := Lib.hid (show zs.length = 2 by rw [← ezs, runR_len]; rfl)
  have AL := Lib.hid (show aa.length = 200 by rw [← eaa]; exact runA_len _ _ _ _)
  clear ezs eaa
  delta names04_p2
  dsimp only
  intro wa w0 hBw hsw MANY0 BAD0 va vc vd vf xa ya u20 u21 u23 u24 u53 u54 u55 u56 u57 u58 u59 u60 u61 u62 u63 u64 u65 u66 u67 u68 u69 u70 u71 u72 u73 u74 u75 u76 u77 u78 u79 u80 u81 u82 u83 u84 u85 u86 u87 u88 u89 u90 u91 u92 u93 u94 u95 u96 u97 u98 u99 u100 u101 u102 u103 u104 u105 u106 u107 u108 u109 u110 u111 u112 u113 u114 u115 u116 u117 u118 u119 u120 u121 u122 u123 u124 u125 u126 u127 u128 u129 u130 u131 u132 u133 u134 u135 u136 u137 u138 u139 u140 u141 u142 u143 u144 u145 u146 u147 u148 u149 u150 u151 u152 u153 u154 u155 u156 u157 u158 u159 u160 u161 u162 u163 u164 u165 u166 u167 u168 u169 u170 u171 u172 u173 u174 u175 u176 u177 u178 u179 u180 u181 u182 u183 u184 u185 u186 u187 u188 u189 u190 u191 u192 u193 u194 u195 u196 u197 u198 u199 u200 u201 u202 u203 u204 u205 u206 u207 u208 u209 u210 u211 u212 u213 u214 u215 u216 u217 u218 u219 u220 u221 u222 u223 u224 u225 u226 u227 u228 u229 u230 u231 u232 u233 u234 u235 u236 u237 u238 u239 u240 u241 u242 u243 u244 u245 u246 u247 u248 u249 u250 u251 u252 u253 u254 u255 u256 u257 u258 u259 u260 u261 u262 u263 u264 u265 u266 u267 u268 u269 u270 u271 u272 u273 u274 u275 u276 u277 u278 u279 u280 u281 u282 u283 u284 u285 u286 u287 u288 u289 u290 u291 u292 u293 u294 u295 u296 u297 u298 u299 u300 u301 u302 u303 u304 u305 u306 u307 u308 u309 u310 u311 u312 u313 u314 u315 u316 u317 u318 u319 w12 hB12 hs12
  go_wp2_with fail
  refine (given4_any _).mono ?_
  rintro e w13 ⟨vj, rfl, ho, hb⟩
  have hB13 : Below w0.heap.size w0 w13 := below_thru (by go_grown) hb
  have hs13 := hB13.size
  have Oj : Hid (OwnB w0.heap.size w13 vj (givs)) := Lib.hid (ho.base (by first | omega | (simp; omega)))
  clear ho
  clear hb
  clear hB12 hs12
  go_wp2_with fail
  refine (lrun_no R4 (by decide) (Oj.out.is.alloc _) ints_nil0 ints_one).mono ?_
  rintro e w14 ⟨xb, yb, rfl, -, -, hb⟩
  have hB14 : Below w0.heap.size w0 w14 := below_thru (by go_grown) hb
  have hs14 := hB14.size
  clear hb
  clear hB13 hs13
  clear Oj
  go_upto_region 13 with fail
  go_cut [31] (fun p31 wx => p31 = .int .i64 2 ∧ Below w14.heap.size w14 wx)
  case first =>
    rename_i JJ KK hJJ hKK
    refine F_frame (F := fun a => Code.wp _ _ _ a _) 320 (by rfl) ?_
    intro fr hsz hfr
    have hEnd : ∀ (g119 g120 g121 x y : Value) (W : World), True → Below w14.heap.size w14 W → KK (((((((((((fr.put (some 119) g119).put (some 120) g120).put (some 121) g121).put (some 122) (.tuple #[x, y, .int .i64 2])).put (some 118) (.tuple #[x, y, .int .i64 2])).put (some 123) (x)).put (some 124) (y)).put (some 125) (.int .i64 2)).put (some 29) (x)).put (some 30) (y)).put (some 31) (.int .i64 2)) W := by
      intro g119 g120 g121 x y W hx hB
      rw [hfr.out]
      rw [put_lit, put_lit, put_lit, put_lit, put_lit, put_lit, put_lit, put_lit, put_lit, put_lit, put_lit]
      dsimp only [List.set_cons_zero, List.set_cons_succ]
      refine hKK _ _ (Met.intro (hJJ _ _ ?_))
      (repeat apply Exists.intro)
      refine ⟨?_, rfl⟩
      exact ⟨rfl, hB⟩
    clear hfr
    refine wp_region_held_drew (S := fun _ => True) (by kernel_rfl) trivial (fun _ => ?_)
    refine F_world (F := fun W => wpAnyH _ _ _ _ _ _ _ _ W) (J := fun _ => True) trivial (Below.refl w14.heap.size w14).drew ?_
    intro W0 _ B0
    refine wpAnyH_ready (rs := [0, 1, 2]) (by kernel_rfl) (by simp) (AllReadyH.cons rfl (fun K hK => ?_) (AllReadyH.cons rfl (fun K hK => ?_) (AllReadyH.cons rfl (fun K hK => ?_) AllReadyH.nil)))
    · skip
      refine step_callH 119 rfl rfl 4 [] _ rfl [] rfl (by kernel_rfl) ?_
      refine (given4_any _).mono ?_
      rintro e W1 ⟨vg, rfl, hog, hb1⟩
      have G0 := Lib.hid hog.is
      clear hog
      have B1 := below_thru B0 hb1
      clear hb1
      refine ⟨_, rfl, hK.out _ _ trivial (fun _ => ?_)⟩; clear hK K
      refine wpAnyH_ready (rs := [1, 2]) (by kernel_rfl) (by simp) (AllReadyH.cons rfl (fun K hK => ?_) (AllReadyH.cons rfl (fun K hK => ?_) AllReadyH.nil))
      · skip
        refine step_makeH 120 rfl rfl _ _ _ rfl (mk1 _) ?_
        refine hK.out _ _ trivial (fun _ => ?_); clear hK K
        refine F_world (F := fun W => wpAnyH _ _ _ _ _ _ _ _ W) (J := fun W => Ints W .u64 (some ⟨W1.heap.size, 0, none⟩) 1 (zn 1)) (iz1 rfl) ((Below.refl _ _).alloc (Nat.le_refl _) _) ?_
        intro W2 i2 hb2
        have M0 := Lib.hid i2
        clear i2
        have G2 := Lib.hid (G0.out.below hb2)
        have B2 := below_thru B1 hb2
        clear hb2
        refine wpAnyH_ready (rs := [2]) (by kernel_rfl) (by simp) (AllReadyH.cons rfl (fun K hK => ?_) AllReadyH.nil)
        refine step_oneH 121 rfl rfl _ _ _ rfl (one_neg _) ?_
        refine hK.out _ _ trivial (fun _ => ?_); clear hK K
        refine F_world (F := fun W => wpAnyH _ _ _ _ _ _ _ _ W) (J := fun W => Ints W .i64 (some ⟨W2.heap.size, 0, none⟩) 1 [-1]) (in1 rfl) ((Below.refl _ _).alloc (Nat.le_refl _) _) ?_
        intro W3 i3 hb3
        have N0 := Lib.hid i3
        clear i3
        have G3 := Lib.hid (G2.out.below hb3)
        have M3 := Lib.hid (M0.out.below hb3)
        have B3 := below_thru B2 hb3
        clear hb3
        refine wpAnyH_ready (rs := [3]) (by kernel_rfl) (by simp) (AllReadyH.cons rfl (fun K hK => ?_) AllReadyH.nil)
        refine step_callH 122 rfl rfl 9 _ _ rfl [vg, .slice (some ⟨W1.heap.size, 0, none⟩) 1 1, .slice (some ⟨W2.heap.size, 0, none⟩) 1 1] (by simp [ev_same, ev_ne, put_size, hsz]) (by kernel_rfl) ?_
        refine (run1neg G3.out M3.out N0.out).mono ?_
        rintro e W4 ⟨x, y, rfl, _, _, hb4⟩
        have B4 := below_thru B3 hb4
        refine ⟨_, rfl, hK.out _ _ trivial (fun _ => ?_)⟩; clear hK K
        refine takeH 4 118 (v := .tuple #[x, y, .int .i64 2]) rfl (by rfl) (by kernel_rfl) (by kernel_rfl) (by kernel_rfl) (fun _ _ _ h => h) (Or.inl ⟨by rfl, ?_⟩) trivial ?_
        · intro wq hSq
          simp [execOp, hsz, go_sem]
        refine takeH 5 123 (v := x) rfl (by rfl) (by kernel_rfl) (by kernel_rfl) (by kernel_rfl) (fun _ _ _ h => h) (Or.inl ⟨by rfl, ?_⟩) trivial ?_
        · intro wq hSq
          simp [execOp, hsz, go_sem]
        refine takeH 6 124 (v := y) rfl (by rfl) (by kernel_rfl) (by kernel_rfl) (by kernel_rfl) (fun _ _ _ h => h) (Or.inl ⟨by rfl, ?_⟩) trivial ?_
        · intro wq hSq
          simp [execOp, hsz, go_sem]
        refine takeH 7 125 (v := .int .i64 2) rfl (by rfl) (by kernel_rfl) (by kernel_rfl) (by kernel_rfl) (fun _ _ _ h => h) (Or.inl ⟨by rfl, ?_⟩) trivial ?_
        · intro wq hSq
          simp [execOp, hsz, go_sem]
        refine takeH 8 29 (v := x) rfl (by rfl) (by kernel_rfl) (by kernel_rfl) (by kernel_rfl) (fun _ _ _ h => h) (Or.inl ⟨by rfl, ?_⟩) trivial ?_
        · intro wq hSq
          simp [execOp, hsz, go_sem]
        refine takeH 9 30 (v := y) rfl (by rfl) (by kernel_rfl) (by kernel_rfl) (by kernel_rfl) (fun _ _ _ h => h) (Or.inl ⟨by rfl, ?_⟩) trivial ?_
        · intro wq hSq
          simp [execOp, hsz, go_sem]
        refine takeH 10 31 (v := .int .i64 2) rfl (by rfl) (by kernel_rfl) (by kernel_rfl) (by kernel_rfl) (fun _ _ _ h => h) (Or.inl ⟨by rfl, ?_⟩) trivial ?_
        · intro wq hSq
          simp [execOp, hsz, go_sem]
        refine wpAnyH_done (by kernel_rfl) ?_ _
        exact hEnd _ _ _ _ _ _ trivial B4
      · skip
        refine step_oneH 121 rfl rfl _ _ _ rfl (one_neg _) ?_
        refine hK.out _ _ trivial (fun _ => ?_); clear hK K
        refine F_world (F := fun W => wpAnyH _ _ _ _ _ _ _ _ W) (J := fun W => Ints W .i64 (some ⟨W1.heap.size, 0, none⟩) 1 [-1]) (in1 rfl) ((Below.refl _ _).alloc (Nat.le_refl _) _) ?_
        intro W5 i5 hb5
        have N0 := Lib.hid i5
        clear i5
        have G5 := Lib.hid (G0.out.below hb5)
        have B5 := below_thru B1 hb5
        clear hb5
        refine wpAnyH_ready (rs := [1]) (by kernel_rfl) (by simp) (AllReadyH.cons rfl (fun K hK => ?_) AllReadyH.nil)
        refine step_makeH 120 rfl rfl _ _ _ rfl (mk1 _) ?_
        refine hK.out _ _ trivial (fun _ => ?_); clear hK K
        refine F_world (F := fun W => wpAnyH _ _ _ _ _ _ _ _ W) (J := fun W => Ints W .u64 (some ⟨W5.heap.size, 0, none⟩) 1 (zn 1)) (iz1 rfl) ((Below.refl _ _).alloc (Nat.le_refl _) _) ?_
        intro W6 i6 hb6
        have M0 := Lib.hid i6
        clear i6
        have G6 := Lib.hid (G5.out.below hb6)
        have N6 := Lib.hid (N0.out.below hb6)
        have B6 := below_thru B5 hb6
        clear hb6
        refine wpAnyH_ready (rs := [3]) (by kernel_rfl) (by simp) (AllReadyH.cons rfl (fun K hK => ?_) AllReadyH.nil)
        rw [put_comm 121 120 (by decide)]
        refine step_callH 122 rfl rfl 9 _ _ rfl [vg, .slice (some ⟨W5.heap.size, 0, none⟩) 1 1, .slice (some ⟨W1.heap.size, 0, none⟩) 1 1] (by simp [ev_same, ev_ne, put_size, hsz]) (by kernel_rfl) ?_
        refine (run1neg G6.out M0.out N6.out).mono ?_
        rintro e W7 ⟨x, y, rfl, _, _, hb7⟩
        have B7 := below_thru B6 hb7
        refine ⟨_, rfl, hK.out _ _ trivial (fun _ => ?_)⟩; clear hK K
        refine takeH 4 118 (v := .tuple #[x, y, .int .i64 2]) rfl (by rfl) (by kernel_rfl) (by kernel_rfl) (by kernel_rfl) (fun _ _ _ h => h) (Or.inl ⟨by rfl, ?_⟩) trivial ?_
        · intro wq hSq
          simp [execOp, hsz, go_sem]
        refine takeH 5 123 (v := x) rfl (by rfl) (by kernel_rfl) (by kernel_rfl) (by kernel_rfl) (fun _ _ _ h => h) (Or.inl ⟨by rfl, ?_⟩) trivial ?_
        · intro wq hSq
          simp [execOp, hsz, go_sem]
        refine takeH 6 124 (v := y) rfl (by rfl) (by kernel_rfl) (by kernel_rfl) (by kernel_rfl) (fun _ _ _ h => h) (Or.inl ⟨by rfl, ?_⟩) trivial ?_
        · intro wq hSq
          simp [execOp, hsz, go_sem]
        refine takeH 7 125 (v := .int .i64 2) rfl (by rfl) (by kernel_rfl) (by kernel_rfl) (by kernel_rfl) (fun _ _ _ h => h) (Or.inl ⟨by rfl, ?_⟩) trivial ?_
        · intro wq hSq
          simp [execOp, hsz, go_sem]
        refine takeH 8 29 (v := x) rfl (by rfl) (by kernel_rfl) (by kernel_rfl) (by kernel_rfl) (fun _ _ _ h => h) (Or.inl ⟨by rfl, ?_⟩) trivial ?_
        · intro wq hSq
          simp [execOp, hsz, go_sem]
        refine takeH 9 30 (v := y) rfl (by rfl) (by kernel_rfl) (by kernel_rfl) (by kernel_rfl) (fun _ _ _ h => h) (Or.inl ⟨by rfl, ?_⟩) trivial ?_
        · intro wq hSq
          simp [execOp, hsz, go_sem]
        refine takeH 10 31 (v := .int .i64 2) rfl (by rfl) (by kernel_rfl) (by kernel_rfl) (by kernel_rfl) (fun _ _ _ h => h) (Or.inl ⟨by rfl, ?_⟩) trivial ?_
        · intro wq hSq
          simp [execOp, hsz, go_sem]
        refine wpAnyH_done (by kernel_rfl) ?_ _
        exact hEnd _ _ _ _ _ _ trivial B7
    · skip
      refine step_makeH 120 rfl rfl _ _ _ rfl (mk1 _) ?_
      refine hK.out _ _ trivial (fun _ => ?_); clear hK K
      refine F_world (F := fun W => wpAnyH _ _ _ _ _ _ _ _ W) (J := fun W => Ints W .u64 (some ⟨W0.heap.size, 0, none⟩) 1 (zn 1)) (iz1 rfl) ((Below.refl _ _).alloc (Nat.le_refl _) _) ?_
      intro W8 i8 hb8
      have M0 := Lib.hid i8
      clear i8
      have B8 := below_thru B0 hb8
      clear hb8
      refine wpAnyH_ready (rs := [0, 2]) (by kernel_rfl) (by simp) (AllReadyH.cons rfl (fun K hK => ?_) (AllReadyH.cons rfl (fun K hK => ?_) AllReadyH.nil))
      · skip
        refine step_callH 119 rfl rfl 4 [] _ rfl [] rfl (by kernel_rfl) ?_
        refine (given4_any _).mono ?_
        rintro e W9 ⟨vg, rfl, hog, hb9⟩
        have G0 := Lib.hid hog.is
        clear hog
        have M9 := Lib.hid (M0.out.below hb9)
        have B9 := below_thru B8 hb9
        clear hb9
        refine ⟨_, rfl, hK.out _ _ trivial (fun _ => ?_)⟩; clear hK K
        refine wpAnyH_ready (rs := [2]) (by kernel_rfl) (by simp) (AllReadyH.cons rfl (fun K hK => ?_) AllReadyH.nil)
        refine step_oneH 121 rfl rfl _ _ _ rfl (one_neg _) ?_
        refine hK.out _ _ trivial (fun _ => ?_); clear hK K
        refine F_world (F := fun W => wpAnyH _ _ _ _ _ _ _ _ W) (J := fun W => Ints W .i64 (some ⟨W9.heap.size, 0, none⟩) 1 [-1]) (in1 rfl) ((Below.refl _ _).alloc (Nat.le_refl _) _) ?_
        intro W10 i10 hb10
        have N0 := Lib.hid i10
        clear i10
        have M10 := Lib.hid (M9.out.below hb10)
        have G10 := Lib.hid (G0.out.below hb10)
        have B10 := below_thru B9 hb10
        clear hb10
        refine wpAnyH_ready (rs := [3]) (by kernel_rfl) (by simp) (AllReadyH.cons rfl (fun K hK => ?_) AllReadyH.nil)
        rw [put_comm 120 119 (by decide)]
        refine step_callH 122 rfl rfl 9 _ _ rfl [vg, .slice (some ⟨W0.heap.size, 0, none⟩) 1 1, .slice (some ⟨W9.heap.size, 0, none⟩) 1 1] (by simp [ev_same, ev_ne, put_size, hsz]) (by kernel_rfl) ?_
        refine (run1neg G10.out M10.out N0.out).mono ?_
        rintro e W11 ⟨x, y, rfl, _, _, hb11⟩
        have B11 := below_thru B10 hb11
        refine ⟨_, rfl, hK.out _ _ trivial (fun _ => ?_)⟩; clear hK K
        refine takeH 4 118 (v := .tuple #[x, y, .int .i64 2]) rfl (by rfl) (by kernel_rfl) (by kernel_rfl) (by kernel_rfl) (fun _ _ _ h => h) (Or.inl ⟨by rfl, ?_⟩) trivial ?_
        · intro wq hSq
          simp [execOp, hsz, go_sem]
        refine takeH 5 123 (v := x) rfl (by rfl) (by kernel_rfl) (by kernel_rfl) (by kernel_rfl) (fun _ _ _ h => h) (Or.inl ⟨by rfl, ?_⟩) trivial ?_
        · intro wq hSq
          simp [execOp, hsz, go_sem]
        refine takeH 6 124 (v := y) rfl (by rfl) (by kernel_rfl) (by kernel_rfl) (by kernel_rfl) (fun _ _ _ h => h) (Or.inl ⟨by rfl, ?_⟩) trivial ?_
        · intro wq hSq
          simp [execOp, hsz, go_sem]
        refine takeH 7 125 (v := .int .i64 2) rfl (by rfl) (by kernel_rfl) (by kernel_rfl) (by kernel_rfl) (fun _ _ _ h => h) (Or.inl ⟨by rfl, ?_⟩) trivial ?_
        · intro wq hSq
          simp [execOp, hsz, go_sem]
        refine takeH 8 29 (v := x) rfl (by rfl) (by kernel_rfl) (by kernel_rfl) (by kernel_rfl) (fun _ _ _ h => h) (Or.inl ⟨by rfl, ?_⟩) trivial ?_
        · intro wq hSq
          simp [execOp, hsz, go_sem]
        refine takeH 9 30 (v := y) rfl (by rfl) (by kernel_rfl) (by kernel_rfl) (by kernel_rfl) (fun _ _ _ h => h) (Or.inl ⟨by rfl, ?_⟩) trivial ?_
        · intro wq hSq
          simp [execOp, hsz, go_sem]
        refine takeH 10 31 (v := .int .i64 2) rfl (by rfl) (by kernel_rfl) (by kernel_rfl) (by kernel_rfl) (fun _ _ _ h => h) (Or.inl ⟨by rfl, ?_⟩) trivial ?_
        · intro wq hSq
          simp [execOp, hsz, go_sem]
        refine wpAnyH_done (by kernel_rfl) ?_ _
        exact hEnd _ _ _ _ _ _ trivial B11
      · skip
        refine step_oneH 121 rfl rfl _ _ _ rfl (one_neg _) ?_
        refine hK.out _ _ trivial (fun _ => ?_); clear hK K
        refine F_world (F := fun W => wpAnyH _ _ _ _ _ _ _ _ W) (J := fun W => Ints W .i64 (some ⟨W8.heap.size, 0, none⟩) 1 [-1]) (in1 rfl) ((Below.refl _ _).alloc (Nat.le_refl _) _) ?_
        intro W12 i12 hb12
        have N0 := Lib.hid i12
        clear i12
        have M12 := Lib.hid (M0.out.below hb12)
        have B12 := below_thru B8 hb12
        clear hb12
        refine wpAnyH_ready (rs := [0]) (by kernel_rfl) (by simp) (AllReadyH.cons rfl (fun K hK => ?_) AllReadyH.nil)
        refine step_callH 119 rfl rfl 4 [] _ rfl [] rfl (by kernel_rfl) ?_
        refine (given4_any _).mono ?_
        rintro e W13 ⟨vg, rfl, hog, hb13⟩
        have G0 := Lib.hid hog.is
        clear hog
        have M13 := Lib.hid (M12.out.below hb13)
        have N13 := Lib.hid (N0.out.below hb13)
        have B13 := below_thru B12 hb13
        clear hb13
        refine ⟨_, rfl, hK.out _ _ trivial (fun _ => ?_)⟩; clear hK K
        refine wpAnyH_ready (rs := [3]) (by kernel_rfl) (by simp) (AllReadyH.cons rfl (fun K hK => ?_) AllReadyH.nil)
        rw [put_comm 121 119 (by decide)]
        rw [put_comm 120 119 (by decide)]
        refine step_callH 122 rfl rfl 9 _ _ rfl [vg, .slice (some ⟨W0.heap.size, 0, none⟩) 1 1, .slice (some ⟨W8.heap.size, 0, none⟩) 1 1] (by simp [ev_same, ev_ne, put_size, hsz]) (by kernel_rfl) ?_
        refine (run1neg G0.out M13.out N13.out).mono ?_
        rintro e W14 ⟨x, y, rfl, _, _, hb14⟩
        have B14 := below_thru B13 hb14
        refine ⟨_, rfl, hK.out _ _ trivial (fun _ => ?_)⟩; clear hK K
        refine takeH 4 118 (v := .tuple #[x, y, .int .i64 2]) rfl (by rfl) (by kernel_rfl) (by kernel_rfl) (by kernel_rfl) (fun _ _ _ h => h) (Or.inl ⟨by rfl, ?_⟩) trivial ?_
        · intro wq hSq
          simp [execOp, hsz, go_sem]
        refine takeH 5 123 (v := x) rfl (by rfl) (by kernel_rfl) (by kernel_rfl) (by kernel_rfl) (fun _ _ _ h => h) (Or.inl ⟨by rfl, ?_⟩) trivial ?_
        · intro wq hSq
          simp [execOp, hsz, go_sem]
        refine takeH 6 124 (v := y) rfl (by rfl) (by kernel_rfl) (by kernel_rfl) (by kernel_rfl) (fun _ _ _ h => h) (Or.inl ⟨by rfl, ?_⟩) trivial ?_
        · intro wq hSq
          simp [execOp, hsz, go_sem]
        refine takeH 7 125 (v := .int .i64 2) rfl (by rfl) (by kernel_rfl) (by kernel_rfl) (by kernel_rfl) (fun _ _ _ h => h) (Or.inl ⟨by rfl, ?_⟩) trivial ?_
        · intro wq hSq
          simp [execOp, hsz, go_sem]
        refine takeH 8 29 (v := x) rfl (by rfl) (by kernel_rfl) (by kernel_rfl) (by kernel_rfl) (fun _ _ _ h => h) (Or.inl ⟨by rfl, ?_⟩) trivial ?_
        · intro wq hSq
          simp [execOp, hsz, go_sem]
        refine takeH 9 30 (v := y) rfl (by rfl) (by kernel_rfl) (by kernel_rfl) (by kernel_rfl) (fun _ _ _ h => h) (Or.inl ⟨by rfl, ?_⟩) trivial ?_
        · intro wq hSq
          simp [execOp, hsz, go_sem]
        refine takeH 10 31 (v := .int .i64 2) rfl (by rfl) (by kernel_rfl) (by kernel_rfl) (by kernel_rfl) (fun _ _ _ h => h) (Or.inl ⟨by rfl, ?_⟩) trivial ?_
        · intro wq hSq
          simp [execOp, hsz, go_sem]
        refine wpAnyH_done (by kernel_rfl) ?_ _
        exact hEnd _ _ _ _ _ _ trivial B14
    · skip
      refine step_oneH 121 rfl rfl _ _ _ rfl (one_neg _) ?_
      refine hK.out _ _ trivial (fun _ => ?_); clear hK K
      refine F_world (F := fun W => wpAnyH _ _ _ _ _ _ _ _ W) (J := fun W => Ints W .i64 (some ⟨W0.heap.size, 0, none⟩) 1 [-1]) (in1 rfl) ((Below.refl _ _).alloc (Nat.le_refl _) _) ?_
      intro W15 i15 hb15
      have N0 := Lib.hid i15
      clear i15
      have B15 := below_thru B0 hb15
      clear hb15
      refine wpAnyH_ready (rs := [0, 1]) (by kernel_rfl) (by simp) (AllReadyH.cons rfl (fun K hK => ?_) (AllReadyH.cons rfl (fun K hK => ?_) AllReadyH.nil))
      · skip
        refine step_callH 119 rfl rfl 4 [] _ rfl [] rfl (by kernel_rfl) ?_
        refine (given4_any _).mono ?_
        rintro e W16 ⟨vg, rfl, hog, hb16⟩
        have G0 := Lib.hid hog.is
        clear hog
        have N16 := Lib.hid (N0.out.below hb16)
        have B16 := below_thru B15 hb16
        clear hb16
        refine ⟨_, rfl, hK.out _ _ trivial (fun _ => ?_)⟩; clear hK K
        refine wpAnyH_ready (rs := [1]) (by kernel_rfl) (by simp) (AllReadyH.cons rfl (fun K hK => ?_) AllReadyH.nil)
        refine step_makeH 120 rfl rfl _ _ _ rfl (mk1 _) ?_
        refine hK.out _ _ trivial (fun _ => ?_); clear hK K
        refine F_world (F := fun W => wpAnyH _ _ _ _ _ _ _ _ W) (J := fun W => Ints W .u64 (some ⟨W16.heap.size, 0, none⟩) 1 (zn 1)) (iz1 rfl) ((Below.refl _ _).alloc (Nat.le_refl _) _) ?_
        intro W17 i17 hb17
        have M0 := Lib.hid i17
        clear i17
        have N17 := Lib.hid (N16.out.below hb17)
        have G17 := Lib.hid (G0.out.below hb17)
        have B17 := below_thru B16 hb17
        clear hb17
        refine wpAnyH_ready (rs := [3]) (by kernel_rfl) (by simp) (AllReadyH.cons rfl (fun K hK => ?_) AllReadyH.nil)
        rw [put_comm 121 119 (by decide)]
        rw [put_comm 121 120 (by decide)]
        refine step_callH 122 rfl rfl 9 _ _ rfl [vg, .slice (some ⟨W16.heap.size, 0, none⟩) 1 1, .slice (some ⟨W0.heap.size, 0, none⟩) 1 1] (by simp [ev_same, ev_ne, put_size, hsz]) (by kernel_rfl) ?_
        refine (run1neg G17.out M0.out N17.out).mono ?_
        rintro e W18 ⟨x, y, rfl, _, _, hb18⟩
        have B18 := below_thru B17 hb18
        refine ⟨_, rfl, hK.out _ _ trivial (fun _ => ?_)⟩; clear hK K
        refine takeH 4 118 (v := .tuple #[x, y, .int .i64 2]) rfl (by rfl) (by kernel_rfl) (by kernel_rfl) (by kernel_rfl) (fun _ _ _ h => h) (Or.inl ⟨by rfl, ?_⟩) trivial ?_
        · intro wq hSq
          simp [execOp, hsz, go_sem]
        refine takeH 5 123 (v := x) rfl (by rfl) (by kernel_rfl) (by kernel_rfl) (by kernel_rfl) (fun _ _ _ h => h) (Or.inl ⟨by rfl, ?_⟩) trivial ?_
        · intro wq hSq
          simp [execOp, hsz, go_sem]
        refine takeH 6 124 (v := y) rfl (by rfl) (by kernel_rfl) (by kernel_rfl) (by kernel_rfl) (fun _ _ _ h => h) (Or.inl ⟨by rfl, ?_⟩) trivial ?_
        · intro wq hSq
          simp [execOp, hsz, go_sem]
        refine takeH 7 125 (v := .int .i64 2) rfl (by rfl) (by kernel_rfl) (by kernel_rfl) (by kernel_rfl) (fun _ _ _ h => h) (Or.inl ⟨by rfl, ?_⟩) trivial ?_
        · intro wq hSq
          simp [execOp, hsz, go_sem]
        refine takeH 8 29 (v := x) rfl (by rfl) (by kernel_rfl) (by kernel_rfl) (by kernel_rfl) (fun _ _ _ h => h) (Or.inl ⟨by rfl, ?_⟩) trivial ?_
        · intro wq hSq
          simp [execOp, hsz, go_sem]
        refine takeH 9 30 (v := y) rfl (by rfl) (by kernel_rfl) (by kernel_rfl) (by kernel_rfl) (fun _ _ _ h => h) (Or.inl ⟨by rfl, ?_⟩) trivial ?_
        · intro wq hSq
          simp [execOp, hsz, go_sem]
        refine takeH 10 31 (v := .int .i64 2) rfl (by rfl) (by kernel_rfl) (by kernel_rfl) (by kernel_rfl) (fun _ _ _ h => h) (Or.inl ⟨by rfl, ?_⟩) trivial ?_
        · intro wq hSq
          simp [execOp, hsz, go_sem]
        refine wpAnyH_done (by kernel_rfl) ?_ _
        exact hEnd _ _ _ _ _ _ trivial B18
      · skip
        refine step_makeH 120 rfl rfl _ _ _ rfl (mk1 _) ?_
        refine hK.out _ _ trivial (fun _ => ?_); clear hK K
        refine F_world (F := fun W => wpAnyH _ _ _ _ _ _ _ _ W) (J := fun W => Ints W .u64 (some ⟨W15.heap.size, 0, none⟩) 1 (zn 1)) (iz1 rfl) ((Below.refl _ _).alloc (Nat.le_refl _) _) ?_
        intro W19 i19 hb19
        have M0 := Lib.hid i19
        clear i19
        have N19 := Lib.hid (N0.out.below hb19)
        have B19 := below_thru B15 hb19
        clear hb19
        refine wpAnyH_ready (rs := [0]) (by kernel_rfl) (by simp) (AllReadyH.cons rfl (fun K hK => ?_) AllReadyH.nil)
        refine step_callH 119 rfl rfl 4 [] _ rfl [] rfl (by kernel_rfl) ?_
        refine (given4_any _).mono ?_
        rintro e W20 ⟨vg, rfl, hog, hb20⟩
        have G0 := Lib.hid hog.is
        clear hog
        have N20 := Lib.hid (N19.out.below hb20)
        have M20 := Lib.hid (M0.out.below hb20)
        have B20 := below_thru B19 hb20
        clear hb20
        refine ⟨_, rfl, hK.out _ _ trivial (fun _ => ?_)⟩; clear hK K
        refine wpAnyH_ready (rs := [3]) (by kernel_rfl) (by simp) (AllReadyH.cons rfl (fun K hK => ?_) AllReadyH.nil)
        rw [put_comm 121 120 (by decide)]
        rw [put_comm 121 119 (by decide)]
        rw [put_comm 120 119 (by decide)]
        refine step_callH 122 rfl rfl 9 _ _ rfl [vg, .slice (some ⟨W15.heap.size, 0, none⟩) 1 1, .slice (some ⟨W0.heap.size, 0, none⟩) 1 1] (by simp [ev_same, ev_ne, put_size, hsz]) (by kernel_rfl) ?_
        refine (run1neg G0.out M20.out N20.out).mono ?_
        rintro e W21 ⟨x, y, rfl, _, _, hb21⟩
        have B21 := below_thru B20 hb21
        refine ⟨_, rfl, hK.out _ _ trivial (fun _ => ?_)⟩; clear hK K
        refine takeH 4 118 (v := .tuple #[x, y, .int .i64 2]) rfl (by rfl) (by kernel_rfl) (by kernel_rfl) (by kernel_rfl) (fun _ _ _ h => h) (Or.inl ⟨by rfl, ?_⟩) trivial ?_
        · intro wq hSq
          simp [execOp, hsz, go_sem]
        refine takeH 5 123 (v := x) rfl (by rfl) (by kernel_rfl) (by kernel_rfl) (by kernel_rfl) (fun _ _ _ h => h) (Or.inl ⟨by rfl, ?_⟩) trivial ?_
        · intro wq hSq
          simp [execOp, hsz, go_sem]
        refine takeH 6 124 (v := y) rfl (by rfl) (by kernel_rfl) (by kernel_rfl) (by kernel_rfl) (fun _ _ _ h => h) (Or.inl ⟨by rfl, ?_⟩) trivial ?_
        · intro wq hSq
          simp [execOp, hsz, go_sem]
        refine takeH 7 125 (v := .int .i64 2) rfl (by rfl) (by kernel_rfl) (by kernel_rfl) (by kernel_rfl) (fun _ _ _ h => h) (Or.inl ⟨by rfl, ?_⟩) trivial ?_
        · intro wq hSq
          simp [execOp, hsz, go_sem]
        refine takeH 8 29 (v := x) rfl (by rfl) (by kernel_rfl) (by kernel_rfl) (by kernel_rfl) (fun _ _ _ h => h) (Or.inl ⟨by rfl, ?_⟩) trivial ?_
        · intro wq hSq
          simp [execOp, hsz, go_sem]
        refine takeH 9 30 (v := y) rfl (by rfl) (by kernel_rfl) (by kernel_rfl) (by kernel_rfl) (fun _ _ _ h => h) (Or.inl ⟨by rfl, ?_⟩) trivial ?_
        · intro wq hSq
          simp [execOp, hsz, go_sem]
        refine takeH 10 31 (v := .int .i64 2) rfl (by rfl) (by kernel_rfl) (by kernel_rfl) (by kernel_rfl) (fun _ _ _ h => h) (Or.inl ⟨by rfl, ?_⟩) trivial ?_
        · intro wq hSq
          simp [execOp, hsz, go_sem]
        refine wpAnyH_done (by kernel_rfl) ?_ _
        exact hEnd _ _ _ _ _ _ trivial B21
  case rest =>
    obtain ⟨rfl, hcb⟩ := hcut
    obtain ⟨w15, rfl⟩ : ∃ u : World, u = wc := ⟨_, rfl⟩
    have hB15 : Below w0.heap.size w0 w15 := hB14.trans (hcb.mono hs14)
    have hs15 := hB15.size
    clear hcb hB14 hs14
    rename_i K0 hK0
    refine hK0 _ _ ?_
    clear hK0 K0
    show Code.wp Try.prog _ (bodyPost Try.prog Try.f3 fun e w' => e = .returned (.bool true) ∧ Below w.heap.size w w') _ _
    revert wa w0 hBw hsw MANY0 BAD0 va vc vd vf xa ya u20 u21 u23 u24 xb yb u29 u30 u53 u54 u55 u56 u57 u58 u59 u60 u61 u62 u63 u64 u65 u66 u67 u68 u69 u70 u71 u72 u73 u74 u75 u76 u77 u78 u79 u80 u81 u82 u83 u84 u85 u86 u87 u88 u89 u90 u91 u92 u93 u94 u95 u96 u97 u98 u99 u100 u101 u102 u103 u104 u105 u106 u107 u108 u109 u110 u111 u112 u113 u114 u115 u116 u117 u118 u119 u120 u121 u122 u123 u124 u125 u126 u127 u128 u129 u130 u131 u132 u133 u134 u135 u136 u137 u138 u139 u140 u141 u142 u143 u144 u145 u146 u147 u148 u149 u150 u151 u152 u153 u154 u155 u156 u157 u158 u159 u160 u161 u162 u163 u164 u165 u166 u167 u168 u169 u170 u171 u172 u173 u174 u175 u176 u177 u178 u179 u180 u181 u182 u183 u184 u185 u186 u187 u188 u189 u190 u191 u192 u193 u194 u195 u196 u197 u198 u199 u200 u201 u202 u203 u204 u205 u206 u207 u208 u209 u210 u211 u212 u213 u214 u215 u216 u217 u218 u219 u220 u221 u222 u223 u224 u225 u226 u227 u228 u229 u230 u231 u232 u233 u234 u235 u236 u237 u238 u239 u240 u241 u242 u243 u244 u245 u246 u247 u248 u249 u250 u251 u252 u253 u254 u255 u256 u257 u258 u259 u260 u261 u262 u263 u264 u265 u266 u267 u268 u269 u270 u271 u272 u273 u274 u275 u276 u277 u278 u279 u280 u281 u282 u283 u284 u285 u286 u287 u288 u289 u290 u291 u292 u293 u294 u295 u296 u297 u298 u299 u300 u301 u302 u303 u304 u305 u306 u307 u308 u309 u310 u311 u312 u313 u314 u315 u316 u317 u318 u319 w15 hB15 hs15
    exact hG.out⟩

end Go.Proofs.Ytegbcagcfmijcaa
