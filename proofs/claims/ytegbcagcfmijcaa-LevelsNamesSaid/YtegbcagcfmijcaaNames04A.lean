/-
  LevelsNames, walked over the contracts of package levels: it returns true.
-/
import Derived.Test.YtegbcagcfmijcaaSame04
import Derived.Test.YtegbcagcfmijcaaTopA04
import Derived.Laws.MakeOwn
import Derived.Test.YtegbcagcfmijcaaFrm04
import Derived.Deep.RegionHeld3
import Derived.Deep.DeepCutAuto
import Derived.Deep.CutBlock
namespace Go.Proofs.Ytegbcagcfmijcaa
open Go.RowKit

def zt1 : Array Value := madeCells #[.int .u64 0] 1
def zt200 : Array Value := madeCells #[.int .u64 0] 200
def zt201 : Array Value := madeCells #[.int .u64 0] 201
def zc200 : Array Value := madeCells #[.int .i64 0] 200
def zb9 : Array Value := madeCells #[.int .i64 0, .int .i64 0, .int .i64 0, .int .i64 0, .int .i64 0, .int .u64 0] 54
def zn (n : Nat) : List Int := List.replicate n 0
theorem zn_len (n : Nat) : (zn n).length = n := List.length_replicate
theorem made_z (k : IntKind) (n : Nat) : madeCells #[.int k 0] n = ((zn n).map (Value.int k)).toArray := by
  apply Array.ext
  · simp [madeCells, zn]
  · intro i h1 h2
    simp [madeCells, zn, Nat.mod_one]
theorem ints_z {w : World} {k : IntKind} {t : TypeId} (n : Nat) (hn : n ≤ 1000) {c : Array Value} (hc : c = madeCells #[.int k 0] n) : Ints (w.alloc (.cells c t)) k (some ⟨w.heap.size, 0, none⟩) n (zn n) :=
  Ints.built (zn n) (by rw [hc, made_z]) (zn_len n).symm (by rw [zn_len]; exact hn)
theorem nth_z (n k : Nat) : nth (zn n) k = 0 := by
  unfold nth zn
  rw [List.getD_eq_getElem?_getD, List.getElem?_replicate]
  split <;> rfl
set_option maxRecDepth 100000 in
theorem info_ui : (Try.prog.info? 25).map (fun i => (i.zero, i.size, i.bytes)) = some (some (.int .u64 0), 1, 8) := by kernel_rfl
set_option maxRecDepth 100000 in
theorem info_ii : (Try.prog.info? 2).map (fun i => (i.zero, i.size, i.bytes)) = some (some (.int .i64 0), 1, 8) := by kernel_rfl
set_option maxRecDepth 100000 in
theorem mk1 (w : World) : (Instr.makeSlice 41 (.int .i64 1) (.int .i64 1)).run Try.prog w = .ok (.slice (some ⟨w.heap.size, 0, none⟩) 1 1) (w.alloc (.cells zt1 25)) := by
  obtain ⟨ti, hin, hz0, hz1, hz2⟩ := info_parts info_ui
  rw [run_make (P := Try.prog) w 41 25 ti (.int .u64 0) Try.underlying41 hin hz0 .i64 .i64 1 1 (by omega) (by omega) (by rw [hz2]; omega) (by omega), hz1]
  rfl
set_option maxRecDepth 100000 in
theorem mk200 (w : World) : (Instr.makeSlice 41 (.int .i64 200) (.int .i64 200)).run Try.prog w = .ok (.slice (some ⟨w.heap.size, 0, none⟩) 200 200) (w.alloc (.cells zt200 25)) := by
  obtain ⟨ti, hin, hz0, hz1, hz2⟩ := info_parts info_ui
  rw [run_make (P := Try.prog) w 41 25 ti (.int .u64 0) Try.underlying41 hin hz0 .i64 .i64 200 200 (by omega) (by omega) (by rw [hz2]; omega) (by omega), hz1]
  rfl
set_option maxRecDepth 100000 in
theorem mk201 (w : World) : (Instr.makeSlice 41 (.int .i64 201) (.int .i64 201)).run Try.prog w = .ok (.slice (some ⟨w.heap.size, 0, none⟩) 201 201) (w.alloc (.cells zt201 25)) := by
  obtain ⟨ti, hin, hz0, hz1, hz2⟩ := info_parts info_ui
  rw [run_make (P := Try.prog) w 41 25 ti (.int .u64 0) Try.underlying41 hin hz0 .i64 .i64 201 201 (by omega) (by omega) (by rw [hz2]; omega) (by omega), hz1]
  rfl
set_option maxRecDepth 100000 in
theorem mkc200 (w : World) : (Instr.makeSlice 42 (.int .i64 200) (.int .i64 200)).run Try.prog w = .ok (.slice (some ⟨w.heap.size, 0, none⟩) 200 200) (w.alloc (.cells zc200 2)) := by
  obtain ⟨ti, hin, hz0, hz1, hz2⟩ := info_parts info_ii
  rw [run_make (P := Try.prog) w 42 2 ti (.int .i64 0) Try.underlying42 hin hz0 .i64 .i64 200 200 (by omega) (by omega) (by rw [hz2]; omega) (by omega), hz1]
  rfl

theorem iz1 {w : World} {b : Nat} {t : TypeId} (hb : b = w.heap.size) : Ints (w.alloc (.cells zt1 t)) .u64 (some ⟨b, 0, none⟩) 1 (zn 1) := by rw [hb]; exact ints_z 1 (by omega) rfl
theorem iz200 {w : World} {b : Nat} {t : TypeId} (hb : b = w.heap.size) : Ints (w.alloc (.cells zt200 t)) .u64 (some ⟨b, 0, none⟩) 200 (zn 200) := by rw [hb]; exact ints_z 200 (by omega) rfl
theorem iz201 {w : World} {b : Nat} {t : TypeId} (hb : b = w.heap.size) : Ints (w.alloc (.cells zt201 t)) .u64 (some ⟨b, 0, none⟩) 201 (zn 201) := by rw [hb]; exact ints_z 201 (by omega) rfl
theorem ic200 {w : World} {b : Nat} {t : TypeId} (hb : b = w.heap.size) : Ints (w.alloc (.cells zc200 t)) .i64 (some ⟨b, 0, none⟩) 200 (zn 200) := by rw [hb]; exact ints_z 200 (by omega) rfl
theorem in1 {w : World} {b : Nat} {t : TypeId} (hb : b = w.heap.size) : Ints (w.alloc (.cells #[.int .i64 (-1)] t)) .i64 (some ⟨b, 0, none⟩) 1 [-1] := by rw [hb]; exact ints_one
def manyB : List Bk := List.replicate 9 ⟨0, 0, 0, 0, 0, 0⟩
def badB : List Bk := [⟨5, 1, 1, 5, 0, 0⟩, ⟨0, 0, 0, 0, 0, 0⟩]
theorem manyB_e : rowE manyB = 4 := by rfl
theorem badB_e : rowE badB = 8 := by rfl
theorem badB_a : askE badB (-1) = 8 := by rfl
theorem givs_a : askE givs (-1) = 2 := by rfl
theorem r_many : runC manyB [] [] = 4 := by rfl
theorem e_201 : runE (zn 201) [] = 4 := by
  unfold runE
  rw [if_pos (by rw [zn_len]; omega)]
theorem r_201 : runC givs (zn 201) [] = 4 := by
  unfold runC
  rw [e_201]
  rfl
set_option maxRecDepth 100000 in
theorem r_1 : runC givs (zn 1) [] = 2 := by rfl
theorem r_neg : runC givs [] [-1] = 2 := by rfl
set_option maxRecDepth 100000 in
theorem r_1neg : runC givs (zn 1) [-1] = 2 := by rfl
def keptB : List Bk := [⟨5, 1, 1, 5, 0, 9⟩, ⟨8, 1, 4, 8, 0, 9⟩]
theorem row_nil : Row [] := ⟨by simp, fun b hb => by cases hb⟩
theorem tak_nil : takV [] 5 9223372036854775807 = [] := by rfl
theorem tak_nilB : takB [] 5 9223372036854775807 = true := by rfl
theorem wts_nil : wts 9223372036854775807 [] = 0 := by rfl
theorem tak_00 : takV givs 0 0 = givs := by rfl
theorem tak_00B : takB givs 0 0 = true := by rfl
theorem tak_96 : takV givs 9 6 = keptB := by rfl
theorem tak_96B : takB givs 9 6 = false := by rfl
theorem wts_6 : wts 6 givs = 18446744073709551615 := by rfl
theorem ent_nil : Entries [] [] := ⟨by simp, rfl, fun k hk => absurd hk (by simp), fun k hk => absurd hk (by simp)⟩
theorem ent_200 : Entries (zn 200) (zn 200) := ⟨by rw [zn_len]; omega, rfl, fun k _ => by rw [nth_z]; exact u0, fun k _ => by rw [nth_z]; exact Int.le_refl _⟩
theorem isU_5 : isU 5 := by unfold isU; omega
theorem isU_9 : isU 9 := by unfold isU; omega
theorem ints_nil0 {w : World} {k : IntKind} : Ints w k none 0 [] := Ints.nil w k
set_option maxRecDepth 100000 in
theorem mkb9 (w : World) : (Instr.makeSlice 22 (.int .i64 9) (.int .i64 9)).run Try.prog w = .ok (.slice (some ⟨w.heap.size, 0, none⟩) 9 9) (w.alloc (.cells zb9 27)) := by
  obtain ⟨ti, hin, hz0, hz1, hz2⟩ := info_parts info_bucket
  rw [run_make (P := Try.prog) w 22 27 ti _ Try.underlying22 hin hz0 .i64 .i64 9 9 (by omega) (by omega) (by rw [hz2]; omega) (by omega), hz1]
  rfl
set_option maxRecDepth 100000 in
theorem many_is {w : World} : IsB (w.alloc (.cells zb9 27)) (.slice (some ⟨w.heap.size, 0, none⟩) 9 9) manyB := IsB.built manyB rfl (by kernel_rfl) rfl rfl (by unfold manyB; simp)

set_option maxRecDepth 100000 in
theorem run201 {a : Option Addr} {c : Nat} {v : Value} {w : World} (h1 : IsB w v givs) (hi : Ints w .u64 a c (zn 201)) : Calls Try.prog 9 #[v, .slice a 201 c, .slice none 0 0] w (GivesRun [] [] 4 w) := by
  have q := lrun_no (Lib.hid r_201) (by decide) h1 hi (ints_nil0 (w := w) (k := .i64))
  rw [zn_len] at q
  exact q
set_option maxRecDepth 100000 in
theorem run1 {a : Option Addr} {c : Nat} {v : Value} {w : World} (h1 : IsB w v givs) (hi : Ints w .u64 a c (zn 1)) : Calls Try.prog 9 #[v, .slice a 1 c, .slice none 0 0] w (GivesRun [] [] 2 w) := by
  have q := lrun_no (Lib.hid r_1) (by decide) h1 hi (ints_nil0 (w := w) (k := .i64))
  rw [zn_len] at q
  exact q
set_option maxRecDepth 100000 in
theorem run1neg {a b : Option Addr} {c d : Nat} {v : Value} {w : World} (h1 : IsB w v givs) (hi : Ints w .u64 a c (zn 1)) (hj : Ints w .i64 b d [-1]) : Calls Try.prog 9 #[v, .slice a 1 c, .slice b 1 d] w (GivesRun [] [] 2 w) := by
  have q := lrun_no (Lib.hid r_1neg) (by decide) h1 hi hj
  rw [zn_len] at q
  exact q
set_option maxRecDepth 100000 in
theorem run200 {a b : Option Addr} {c d : Nat} {v : Value} {w : World} {zs : List Bk} {aa : List Bool} (hz : Hid (runR givs (zn 200) (zn 200) 200 = zs)) (ha : Hid (runA givs (zn 200) (zn 200) 200 = aa)) (h1 : IsB w v givs) (hi : Ints w .u64 a c (zn 200)) (hj : Ints w .i64 b d (zn 200)) : Calls Try.prog 9 #[v, .slice a 200 c, .slice b 200 d] w (GivesRun zs aa 0 w) := by
  have q := lrun_is (n := 200) givs_row ent_200 (Lib.hid (zn_len 200)) hz ha h1 hi hj
  exact q
theorem one_neg (w : World) : (Instr.buildSlice 42 1 #[(0, .int .i64 (-1))]).run Try.prog w = .ok (.slice (some ⟨w.heap.size, 0, none⟩) 1 1) (w.alloc (.cells #[.int .i64 (-1)] 2)) := by kernel_rfl
attribute [irreducible] zn zt200 zt201 zc200 zt1

/-- What is left to prove. -/
structure Later (G : Prop) : Prop where
  out : G

set_option maxRecDepth 100000 in
set_option maxHeartbeats 25600000 in
def names04_p1 (w : World) : PSigma fun G : Prop => (Later G → Calls Try.prog 3 #[] w fun e w' => e = .returned (.bool true) ∧ Below w.heap.size w w') := ⟨_, fun hG => by
  have m1 := mk1
  have m2 := mk200
  have m3 := mk201
  have m4 := mkc200
  have m5 := mkb9
  have EM := Lib.hid manyB_e
  have EB := Lib.hid badB_e
  have EBA := Lib.hid badB_a
  have EGA := Lib.hid givs_a
  have RM := Lib.hid r_many
  have R2 := Lib.hid r_201
  have R3 := Lib.hid r_1
  have R4 := Lib.hid r_neg
  have R5 := Lib.hid r_1neg
  have RN0 := Lib.hid row_nil
  have RG := Lib.hid givs_row
  have T1 := Lib.hid tak_nil
  have T2 := Lib.hid tak_nilB
  have T3 := Lib.hid wts_nil
  have T4 := Lib.hid tak_00
  have T5 := Lib.hid tak_00B
  have T6 := Lib.hid tak_96
  have T7 := Lib.hid tak_96B
  have T8 := Lib.hid wts_6
  have EN0 := Lib.hid ent_nil
  have E200 := Lib.hid ent_200
  have L0 : Hid (([] : List Int).length = 0) := Lib.hid rfl
  have Z0 : Hid (runR givs [] [] 0 = givs) := Lib.hid rfl
  have A0 : Hid (runA givs [] [] 0 = []) := Lib.hid rfl
  have L200 := Lib.hid (zn_len 200)
  obtain ⟨zs, ezs⟩ : ∃ y, runR givs (zn 200) (zn 200) 200 = y := ⟨_, rfl⟩
  obtain ⟨aa, eaa⟩ : ∃ y, runA givs (zn 200) (zn 200) 200 = y := ⟨_, rfl⟩
  have Z200 := Lib.hid ezs
  have A200 := Lib.hid eaa
  have ZL := Lib.hid (show zs.length = 2 by rw [← ezs, runR_len]; rfl)
  have AL := Lib.hid (show aa.length = 200 by rw [← eaa]; exact runA_len _ _ _ _)
  clear ezs eaa
  go_enter Try.func3, Try.ntmps3
  go_wp2_with fail
  refine (given4_any _).mono ?_
  rintro e wa ⟨vg, rfl, hog, hb⟩
  have hBa : Below w.heap.size w wa := below_thru (by go_grown) hb
  have hsa := hBa.size
  have M1 := Lib.hid ((many_is (w := w)).below hb)
  obtain ⟨b0, o0, c0, rfl, q0, z0, x0, y0⟩ := (show IsB wa vg [⟨5, 1, 1, 5, 0, 0⟩, ⟨8, 1, 4, 8, 0, 0⟩] from hog.is).two
  have g0 := x0 0 _ rfl
  have g1 := x0 1 _ rfl
  have g2 := x0 2 _ rfl
  have g3 := x0 3 _ rfl
  have g4 := x0 4 _ rfl
  have g5 := x0 5 _ rfl
  rw [Nat.add_zero] at g0
  have zg := lt_of_cell g0
  clear hb hog x0 y0
  go_upto_region 3 with fail
  have hBw := hBa.alloc hsa (.cells #[.int .i64 5, .int .i64 1, .int .i64 1, .int .i64 5, .int .i64 0, .int .u64 0, .int .i64 0, .int .i64 0, .int .i64 0, .int .i64 0, .int .i64 0, .int .u64 0] 27)
  have hbad : IsB (wa.alloc (.cells #[.int .i64 5, .int .i64 1, .int .i64 1, .int .i64 5, .int .i64 0, .int .u64 0, .int .i64 0, .int .i64 0, .int .i64 0, .int .i64 0, .int .i64 0, .int .u64 0] 27)) (.slice (some ⟨wa.heap.size, 0, none⟩) 2 2) badB := IsB.built badB rfl rfl rfl rfl (by unfold badB; simp)
  have hmany := M1.out.alloc (.cells #[.int .i64 5, .int .i64 1, .int .i64 1, .int .i64 5, .int .i64 0, .int .u64 0, .int .i64 0, .int .i64 0, .int .i64 0, .int .i64 0, .int .i64 0, .int .u64 0] 27)
  obtain ⟨w0, h9⟩ : ∃ W, wa.alloc (.cells #[.int .i64 5, .int .i64 1, .int .i64 1, .int .i64 5, .int .i64 0, .int .u64 0, .int .i64 0, .int .i64 0, .int .i64 0, .int .i64 0, .int .i64 0, .int .u64 0] 27) = W := ⟨_, rfl⟩
  rw [h9] at hBw hbad hmany ⊢
  have hsw := hBw.size
  have MANY0 := Lib.hid hmany
  have BAD0 := Lib.hid hbad
  clear h9 hBa hsa M1 g0 g1 g2 g3 g4 g5 zg hbad hmany
  go_wp2_with fail
  refine (lrefill_no EM (by decide) MANY0.out).mono ?_
  rintro e w1 ⟨va, rfl, ho, hb⟩
  have hB1 : Below w0.heap.size w0 w1 := below_thru (by go_grown) hb
  have hs1 := hB1.size
  have Oa : Hid (OwnB w0.heap.size w1 va ([])) := Lib.hid (ho.base (by first | omega | (simp; omega)))
  clear ho
  clear hb
  clear Oa
  go_wp2_with fail
  refine (lrefill_no EB (by decide) (BAD0.out.below hB1)).mono ?_
  rintro e w2 ⟨vc, rfl, ho, hb⟩
  have hB2 : Below w0.heap.size w0 w2 := below_thru (by go_grown) hb
  have hs2 := hB2.size
  have Oc : Hid (OwnB w0.heap.size w2 vc ([])) := Lib.hid (ho.base (by first | omega | (simp; omega)))
  clear ho
  clear hb
  clear hB1 hs1
  clear Oc
  go_wp2_with fail
  refine (ltake_no EBA (by decide) (BAD0.out.below hB2)).mono ?_
  rintro e w3 ⟨vd, rfl, ho, hb⟩
  have hB3 : Below w0.heap.size w0 w3 := below_thru (by go_grown) hb
  have hs3 := hB3.size
  have Od : Hid (OwnB w0.heap.size w3 vd ([])) := Lib.hid (ho.base (by first | omega | (simp; omega)))
  clear ho
  clear hb
  clear hB2 hs2
  clear Od
  go_wp2_with fail
  refine (given4_any _).mono ?_
  rintro e w4 ⟨ve, rfl, ho, hb⟩
  have hB4 : Below w0.heap.size w0 w4 := below_thru (by go_grown) hb
  have hs4 := hB4.size
  have Oe : Hid (OwnB w0.heap.size w4 ve (givs)) := Lib.hid (ho.base (by first | omega | (simp; omega)))
  clear ho
  clear hb
  clear hB3 hs3
  go_wp2_with fail
  refine (ltake_no EGA (by decide) Oe.out.is).mono ?_
  rintro e w5 ⟨vf, rfl, ho, hb⟩
  have hB5 : Below w0.heap.size w0 w5 := below_thru (by go_grown) hb
  have hs5 := hB5.size
  have Oe_ : Hid (OwnB w0.heap.size w5 ve (givs)) := Lib.hid (by first | exact Oe.out.below hb | exact (Oe.out.alloc _).below hb | exact ((Oe.out.alloc _).alloc _).below hb | exact (((Oe.out.alloc _).alloc _).alloc _).below hb | exact Oe.out.drew.below hb)
  clear Oe; have Oe := Oe_; clear Oe_
  have Of : Hid (OwnB w0.heap.size w5 vf ([])) := Lib.hid (ho.base (by first | omega | (simp; omega)))
  clear ho
  clear hb
  clear hB4 hs4
  clear Oe
  clear Of
  go_wp2_with fail
  refine (given4_any _).mono ?_
  rintro e w6 ⟨vh, rfl, ho, hb⟩
  have hB6 : Below w0.heap.size w0 w6 := below_thru (by go_grown) hb
  have hs6 := hB6.size
  have Oh : Hid (OwnB w0.heap.size w6 vh (givs)) := Lib.hid (ho.base (by first | omega | (simp; omega)))
  clear ho
  clear hb
  clear hB5 hs5
  go_wp2_with fail
  refine (lhold_no EGA (by decide) Oh.out.is).mono ?_
  rintro e w7 ⟨rfl, hb⟩
  have hB7 : Below w0.heap.size w0 w7 := below_thru (by go_grown) hb
  have hs7 := hB7.size
  have Oh_ : Hid (OwnB w0.heap.size w7 vh (givs)) := Lib.hid (by first | exact Oh.out.below hb | exact (Oh.out.alloc _).below hb | exact ((Oh.out.alloc _).alloc _).below hb | exact (((Oh.out.alloc _).alloc _).alloc _).below hb | exact Oh.out.drew.below hb)
  clear Oh; have Oh := Oh_; clear Oh_
  clear hb
  clear hB6 hs6
  clear Oh
  go_wp2_with fail
  refine (given4_any _).mono ?_
  rintro e w8 ⟨vi, rfl, ho, hb⟩
  have hB8 : Below w0.heap.size w0 w8 := below_thru (by go_grown) hb
  have hs8 := hB8.size
  have Oi : Hid (OwnB w0.heap.size w8 vi (givs)) := Lib.hid (ho.base (by first | omega | (simp; omega)))
  clear ho
  clear hb
  clear hB7 hs7
  go_wp2_with fail
  refine (lwait_no EGA (by decide) Oi.out.is).mono ?_
  rintro e w9 ⟨rfl, hb⟩
  have hB9 : Below w0.heap.size w0 w9 := below_thru (by go_grown) hb
  have hs9 := hB9.size
  have Oi_ : Hid (OwnB w0.heap.size w9 vi (givs)) := Lib.hid (by first | exact Oi.out.below hb | exact (Oi.out.alloc _).below hb | exact ((Oi.out.alloc _).alloc _).below hb | exact (((Oi.out.alloc _).alloc _).alloc _).below hb | exact Oi.out.drew.below hb)
  clear Oi; have Oi := Oi_; clear Oi_
  clear hb
  clear hB8 hs8
  clear Oi
  go_wp2_with fail
  refine (lrun_no RM (by decide) (MANY0.out.below hB9) ints_nil0 ints_nil0).mono ?_
  rintro e w10 ⟨xa, ya, rfl, -, -, hb⟩
  have hB10 : Below w0.heap.size w0 w10 := below_thru (by go_grown) hb
  have hs10 := hB10.size
  clear hb
  clear hB9 hs9
  go_upto_region 10 with fail
  go_cut [22] (fun p22 wx => p22 = .int .i64 4 ∧ Below w10.heap.size w10 wx)
  case first =>
    rename_i JJ KK hJJ hKK
    refine F_frame (F := fun a => Code.wp _ _ _ a _) 320 (by rfl) ?_
    intro fr hsz hfr
    have hEnd : ∀ (g98 g99 x y : Value) (W : World), True → Below w10.heap.size w10 W → KK ((((((((((fr.put (some 98) g98).put (some 99) g99).put (some 100) (.tuple #[x, y, .int .i64 4])).put (some 97) (.tuple #[x, y, .int .i64 4])).put (some 101) (x)).put (some 102) (y)).put (some 103) (.int .i64 4)).put (some 20) (x)).put (some 21) (y)).put (some 22) (.int .i64 4)) W := by
      intro g98 g99 x y W hx hB
      rw [hfr.out]
      rw [put_lit, put_lit, put_lit, put_lit, put_lit, put_lit, put_lit, put_lit, put_lit, put_lit]
      dsimp only [List.set_cons_zero, List.set_cons_succ]
      refine hKK _ _ (Met.intro (hJJ _ _ ?_))
      (repeat apply Exists.intro)
      refine ⟨?_, rfl⟩
      exact ⟨rfl, hB⟩
    clear hfr
    refine wp_region_held_drew (S := fun _ => True) (by kernel_rfl) trivial (fun _ => ?_)
    refine F_world (F := fun W => wpAnyH _ _ _ _ _ _ _ _ W) (J := fun _ => True) trivial (Below.refl w10.heap.size w10).drew ?_
    intro W0 _ B0
    refine wpAnyH_ready (rs := [0, 1]) (by kernel_rfl) (by simp) (AllReadyH.cons rfl (fun K hK => ?_) (AllReadyH.cons rfl (fun K hK => ?_) AllReadyH.nil))
    · skip
      refine step_callH 98 rfl rfl 4 [] _ rfl [] rfl (by kernel_rfl) ?_
      refine (given4_any _).mono ?_
      rintro e W1 ⟨vg, rfl, hog, hb1⟩
      have G0 := Lib.hid hog.is
      clear hog
      have B1 := below_thru B0 hb1
      clear hb1
      refine ⟨_, rfl, hK.out _ _ trivial (fun _ => ?_)⟩; clear hK K
      refine wpAnyH_ready (rs := [1]) (by kernel_rfl) (by simp) (AllReadyH.cons rfl (fun K hK => ?_) AllReadyH.nil)
      refine step_makeH 99 rfl rfl _ _ _ rfl (mk201 _) ?_
      refine hK.out _ _ trivial (fun _ => ?_); clear hK K
      refine F_world (F := fun W => wpAnyH _ _ _ _ _ _ _ _ W) (J := fun W => Ints W .u64 (some ⟨W1.heap.size, 0, none⟩) 201 (zn 201)) (iz201 rfl) ((Below.refl _ _).alloc (Nat.le_refl _) _) ?_
      intro W2 i2 hb2
      have M0 := Lib.hid i2
      clear i2
      have G2 := Lib.hid (G0.out.below hb2)
      have B2 := below_thru B1 hb2
      clear hb2
      refine wpAnyH_ready (rs := [2]) (by kernel_rfl) (by simp) (AllReadyH.cons rfl (fun K hK => ?_) AllReadyH.nil)
      refine step_callH 100 rfl rfl 9 _ _ rfl [vg, .slice (some ⟨W1.heap.size, 0, none⟩) 201 201, .slice none 0 0] (by simp [ev_same, ev_ne, ev_const, put_size, hsz]) (by kernel_rfl) ?_
      refine (run201 G2.out M0.out).mono ?_
      rintro e W3 ⟨x, y, rfl, _, _, hb3⟩
      have B3 := below_thru B2 hb3
      refine ⟨_, rfl, hK.out _ _ trivial (fun _ => ?_)⟩; clear hK K
      refine takeH 3 97 (v := .tuple #[x, y, .int .i64 4]) rfl (by rfl) (by kernel_rfl) (by kernel_rfl) (by kernel_rfl) (fun _ _ _ h => h) (Or.inl ⟨by rfl, ?_⟩) trivial ?_
      · intro wq hSq
        simp [execOp, hsz, go_sem]
      refine takeH 4 101 (v := x) rfl (by rfl) (by kernel_rfl) (by kernel_rfl) (by kernel_rfl) (fun _ _ _ h => h) (Or.inl ⟨by rfl, ?_⟩) trivial ?_
      · intro wq hSq
        simp [execOp, hsz, go_sem]
      refine takeH 5 102 (v := y) rfl (by rfl) (by kernel_rfl) (by kernel_rfl) (by kernel_rfl) (fun _ _ _ h => h) (Or.inl ⟨by rfl, ?_⟩) trivial ?_
      · intro wq hSq
        simp [execOp, hsz, go_sem]
      refine takeH 6 103 (v := .int .i64 4) rfl (by rfl) (by kernel_rfl) (by kernel_rfl) (by kernel_rfl) (fun _ _ _ h => h) (Or.inl ⟨by rfl, ?_⟩) trivial ?_
      · intro wq hSq
        simp [execOp, hsz, go_sem]
      refine takeH 7 20 (v := x) rfl (by rfl) (by kernel_rfl) (by kernel_rfl) (by kernel_rfl) (fun _ _ _ h => h) (Or.inl ⟨by rfl, ?_⟩) trivial ?_
      · intro wq hSq
        simp [execOp, hsz, go_sem]
      refine takeH 8 21 (v := y) rfl (by rfl) (by kernel_rfl) (by kernel_rfl) (by kernel_rfl) (fun _ _ _ h => h) (Or.inl ⟨by rfl, ?_⟩) trivial ?_
      · intro wq hSq
        simp [execOp, hsz, go_sem]
      refine takeH 9 22 (v := .int .i64 4) rfl (by rfl) (by kernel_rfl) (by kernel_rfl) (by kernel_rfl) (fun _ _ _ h => h) (Or.inl ⟨by rfl, ?_⟩) trivial ?_
      · intro wq hSq
        simp [execOp, hsz, go_sem]
      refine wpAnyH_done (by kernel_rfl) ?_ _
      exact hEnd _ _ _ _ _ trivial B3
    · skip
      refine step_makeH 99 rfl rfl _ _ _ rfl (mk201 _) ?_
      refine hK.out _ _ trivial (fun _ => ?_); clear hK K
      refine F_world (F := fun W => wpAnyH _ _ _ _ _ _ _ _ W) (J := fun W => Ints W .u64 (some ⟨W0.heap.size, 0, none⟩) 201 (zn 201)) (iz201 rfl) ((Below.refl _ _).alloc (Nat.le_refl _) _) ?_
      intro W4 i4 hb4
      have M0 := Lib.hid i4
      clear i4
      have B4 := below_thru B0 hb4
      clear hb4
      refine wpAnyH_ready (rs := [0]) (by kernel_rfl) (by simp) (AllReadyH.cons rfl (fun K hK => ?_) AllReadyH.nil)
      refine step_callH 98 rfl rfl 4 [] _ rfl [] rfl (by kernel_rfl) ?_
      refine (given4_any _).mono ?_
      rintro e W5 ⟨vg, rfl, hog, hb5⟩
      have G0 := Lib.hid hog.is
      clear hog
      have M5 := Lib.hid (M0.out.below hb5)
      have B5 := below_thru B4 hb5
      clear hb5
      refine ⟨_, rfl, hK.out _ _ trivial (fun _ => ?_)⟩; clear hK K
      refine wpAnyH_ready (rs := [2]) (by kernel_rfl) (by simp) (AllReadyH.cons rfl (fun K hK => ?_) AllReadyH.nil)
      rw [put_comm 99 98 (by decide)]
      refine step_callH 100 rfl rfl 9 _ _ rfl [vg, .slice (some ⟨W0.heap.size, 0, none⟩) 201 201, .slice none 0 0] (by simp [ev_same, ev_ne, ev_const, put_size, hsz]) (by kernel_rfl) ?_
      refine (run201 G0.out M5.out).mono ?_
      rintro e W6 ⟨x, y, rfl, _, _, hb6⟩
      have B6 := below_thru B5 hb6
      refine ⟨_, rfl, hK.out _ _ trivial (fun _ => ?_)⟩; clear hK K
      refine takeH 3 97 (v := .tuple #[x, y, .int .i64 4]) rfl (by rfl) (by kernel_rfl) (by kernel_rfl) (by kernel_rfl) (fun _ _ _ h => h) (Or.inl ⟨by rfl, ?_⟩) trivial ?_
      · intro wq hSq
        simp [execOp, hsz, go_sem]
      refine takeH 4 101 (v := x) rfl (by rfl) (by kernel_rfl) (by kernel_rfl) (by kernel_rfl) (fun _ _ _ h => h) (Or.inl ⟨by rfl, ?_⟩) trivial ?_
      · intro wq hSq
        simp [execOp, hsz, go_sem]
      refine takeH 5 102 (v := y) rfl (by rfl) (by kernel_rfl) (by kernel_rfl) (by kernel_rfl) (fun _ _ _ h => h) (Or.inl ⟨by rfl, ?_⟩) trivial ?_
      · intro wq hSq
        simp [execOp, hsz, go_sem]
      refine takeH 6 103 (v := .int .i64 4) rfl (by rfl) (by kernel_rfl) (by kernel_rfl) (by kernel_rfl) (fun _ _ _ h => h) (Or.inl ⟨by rfl, ?_⟩) trivial ?_
      · intro wq hSq
        simp [execOp, hsz, go_sem]
      refine takeH 7 20 (v := x) rfl (by rfl) (by kernel_rfl) (by kernel_rfl) (by kernel_rfl) (fun _ _ _ h => h) (Or.inl ⟨by rfl, ?_⟩) trivial ?_
      · intro wq hSq
        simp [execOp, hsz, go_sem]
      refine takeH 8 21 (v := y) rfl (by rfl) (by kernel_rfl) (by kernel_rfl) (by kernel_rfl) (fun _ _ _ h => h) (Or.inl ⟨by rfl, ?_⟩) trivial ?_
      · intro wq hSq
        simp [execOp, hsz, go_sem]
      refine takeH 9 22 (v := .int .i64 4) rfl (by rfl) (by kernel_rfl) (by kernel_rfl) (by kernel_rfl) (fun _ _ _ h => h) (Or.inl ⟨by rfl, ?_⟩) trivial ?_
      · intro wq hSq
        simp [execOp, hsz, go_sem]
      refine wpAnyH_done (by kernel_rfl) ?_ _
      exact hEnd _ _ _ _ _ trivial B6
  case rest =>
    obtain ⟨rfl, hcb⟩ := hcut
    obtain ⟨w11, rfl⟩ : ∃ u : World, u = wc := ⟨_, rfl⟩
    have hB11 : Below w0.heap.size w0 w11 := hB10.trans (hcb.mono hs10)
    have hs11 := hB11.size
    clear hcb hB10 hs10
    rename_i K0 hK0
    refine hK0 _ _ ?_
    clear hK0 K0
    show Code.wp Try.prog _ (bodyPost Try.prog Try.f3 fun e w' => e = .returned (.bool true) ∧ Below w.heap.size w w') _ _
    revert wa w0 hBw hsw MANY0 BAD0 va vc vd vf xa ya u20 u21 u53 u54 u55 u56 u57 u58 u59 u60 u61 u62 u63 u64 u65 u66 u67 u68 u69 u70 u71 u72 u73 u74 u75 u76 u77 u78 u79 u80 u81 u82 u83 u84 u85 u86 u87 u88 u89 u90 u91 u92 u93 u94 u95 u96 u97 u98 u99 u100 u101 u102 u103 u104 u105 u106 u107 u108 u109 u110 u111 u112 u113 u114 u115 u116 u117 u118 u119 u120 u121 u122 u123 u124 u125 u126 u127 u128 u129 u130 u131 u132 u133 u134 u135 u136 u137 u138 u139 u140 u141 u142 u143 u144 u145 u146 u147 u148 u149 u150 u151 u152 u153 u154 u155 u156 u157 u158 u159 u160 u161 u162 u163 u164 u165 u166 u167 u168 u169 u170 u171 u172 u173 u174 u175 u176 u177 u178 u179 u180 u181 u182 u183 u184 u185 u186 u187 u188 u189 u190 u191 u192 u193 u194 u195 u196 u197 u198 u199 u200 u201 u202 u203 u204 u205 u206 u207 u208 u209 u210 u211 u212 u213 u214 u215 u216 u217 u218 u219 u220 u221 u222 u223 u224 u225 u226 u227 u228 u229 u230 u231 u232 u233 u234 u235 u236 u237 u238 u239 u240 u241 u242 u243 u244 u245 u246 u247 u248 u249 u250 u251 u252 u253 u254 u255 u256 u257 u258 u259 u260 u261 u262 u263 u264 u265 u266 u267 u268 u269 u270 u271 u272 u273 u274 u275 u276 u277 u278 u279 u280 u281 u282 u283 u284 u285 u286 u287 u288 u289 u290 u291 u292 u293 u294 u295 u296 u297 u298 u299 u300 u301 u302 u303 u304 u305 u306 u307 u308 u309 u310 u311 u312 u313 u314 u315 u316 u317 u318 u319 w11 hB11 hs11
    exact hG.out⟩

end Go.Proofs.Ytegbcagcfmijcaa
