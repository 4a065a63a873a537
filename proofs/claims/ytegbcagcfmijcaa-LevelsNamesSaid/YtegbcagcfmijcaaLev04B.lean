/-
  Package levels, walked: costs, whether a row holds a cost, refilling, charging and taking.
-/
import Derived.Test.YtegbcagcfmijcaaLev04A
import Derived.Test.YtegbcagcfmijcaaWide
namespace Go.Proofs.Ytegbcagcfmijcaa
open Go.RowKit

/-- What is said of a list of costs; of a row and a cost. -/
def costE (xs : List Int) : Int := if xs.all (fun x => decide (0 ≤ x)) then 0 else 2
theorem costE_no {xs : List Int} {i : Nat} (hi : i < xs.length) (h : nth xs i < 0) : costE xs = 2 := by
  unfold costE
  rw [if_neg]
  intro q
  rw [List.all_eq_true] at q
  have := q (nth xs i) (by unfold nth; rw [List.getD_eq_getElem?_getD, List.getElem?_eq_getElem hi]; exact List.getElem_mem hi)
  have := of_decide_eq_true this
  omega
theorem costE_yes {xs : List Int} (h : ∀ i, i < xs.length → 0 ≤ nth xs i) : costE xs = 0 := by
  unfold costE
  rw [if_pos]
  rw [List.all_eq_true]
  intro x hx
  obtain ⟨i, hi, rfl⟩ := List.getElem_of_mem hx
  have := h i hi
  unfold nth at this
  rw [List.getD_eq_getElem?_getD, List.getElem?_eq_getElem hi] at this
  exact decide_eq_true this
theorem costE_zero {xs : List Int} (h : costE xs = 0) : ∀ x ∈ xs, 0 ≤ x := by
  unfold costE at h
  split at h
  · rename_i q
    rw [List.all_eq_true] at q
    exact fun x hx => of_decide_eq_true (q x hx)
  · omega
theorem costE_two (xs : List Int) : costE xs = 0 ∨ costE xs = 2 := by unfold costE; split <;> simp
theorem costE_one (c : Int) : costE [c] = if c < 0 then 2 else 0 := by
  unfold costE
  by_cases h : c < 0
  · rw [if_pos h, if_neg]; simp; omega
  · rw [if_neg h, if_pos]; simp; omega
def askE (bs : List Bk) (c : Int) : Int := orI (rowE bs) (costE [c])
theorem orI_zero {x y : Int} (h : orI x y = 0) : x = 0 ∧ y = 0 := by
  unfold orI at h
  split at h <;> omega
theorem askE_zero {bs : List Bk} {c : Int} (h : askE bs c = 0) : rowE bs = 0 ∧ 0 ≤ c := by
  obtain ⟨h1, h2⟩ := orI_zero h
  rw [costE_one] at h2
  refine ⟨h1, ?_⟩
  split at h2 <;> omega
theorem askE_ok {bs : List Bk} {c : Int} (h : rowE bs = 0) (hc : 0 ≤ c) : askE bs c = 0 := by
  unfold askE
  rw [h, costE_one, if_neg (by omega)]
  rfl
theorem ints_one {w : World} {k : IntKind} {c : Int} {t : TypeId} : Ints (w.alloc (.cells #[.int k c] t)) k (some ⟨w.heap.size, 0, none⟩) 1 [c] := by
  refine ⟨by simp, by omega, fun _ => ⟨_, _, rfl, fun i hi => ?_⟩⟩
  obtain rfl : i = 0 := by simpa using hi
  rw [World.cell?_alloc_new]
  rfl

set_option maxRecDepth 100000 in
set_option maxHeartbeats 3200000 in
theorem costs_is {xs : List Int} {n : Int} {at0 : Option Addr} {cap : Nat} (w : World) (h : Hid (costE xs = n)) (hi : Ints w .i64 at0 cap xs) :
    Calls Try.prog 15 #[.slice at0 xs.length cap] w fun e w' => e = .returned (.int .i64 n) ∧ w' = w := by
  have i1 := hi.room
  have i2 := hi.most
  have HI := Lib.hid hi
  clear hi
  go_enter Try.func15, Try.ntmps15
  go_wp2_with fail
  go_loop [7] (fun s7 => ∃ k : Nat, s7 = .int .i64 k ∧ k ≤ xs.length ∧ Hid (∀ i, i < k → 0 ≤ nth xs i)) (fun s7 => xs.length - (intOf s7).toNat)
  case atStart => exact ⟨0, rfl, by omega, Lib.hid (fun i hi => by omega)⟩
  case round =>
    obtain ⟨k, rfl, hk, HE⟩ := hrel
    by_cases hlt : k < xs.length
    case neg =>
      have HN := Lib.hid (show (0 : Int) = n by rw [← h.out]; exact (costE_yes fun i hi => HE.out i (by omega)).symm)
      go_wp2_with fail
      go_returns
      exact ⟨ret_i HN.out, rfl⟩
    case pos =>
      obtain ⟨b, off, rfl, C0⟩ := HI.out.at hlt
      have zb := lt_of_cell C0
      obtain ⟨x, ex⟩ : ∃ x, nth xs k = x := ⟨_, rfl⟩
      rw [ex] at C0
      by_cases hx : x < 0
      · have HN := Lib.hid (show (2 : Int) = n by rw [← h.out]; exact (costE_no hlt (by omega)).symm)
        have d2 : decide (x < 0) = true := decide_eq_true hx
        clear ex
        go_wp2_with fail
        go_returns
        exact ⟨ret_i HN.out, rfl⟩
      · have HE2 := Lib.hid (show ∀ i, i < k + 1 → 0 ≤ nth xs i from fun i hi => by
          rcases Nat.lt_or_ge i k with z | z
          · exact HE.out i z
          · obtain rfl : i = k := by omega
            omega)
        have d2 : decide (x < 0) = false := decide_eq_false hx
        clear ex
        go_wp2_with fail
        go_round
        case rel => exact ⟨k + 1, by go_num, by omega, HE2⟩
        case measure => simp [intOf]; omega

set_option maxRecDepth 100000 in
set_option maxHeartbeats 400000 in
theorem ore_any (x y : Int) (b : Nat) (w : World) (h0 : w.cell? ⟨b, 0, none⟩ = some (.int .i64 x)) (h1 : w.cell? ⟨b, 1, none⟩ = some (.int .i64 y)) :
    Calls Try.prog 14 #[.slice (some ⟨b, 0, none⟩) 2 2] w fun e w' => e = .returned (.int .i64 (orI x y)) ∧ w' = w := by
  by_cases hx : x = 0
  · have ex : (x != 0) = false := by simp [hx]
    by_cases hy : y = 0
    · have ey : (y != 0) = false := by simp [hy]
      go_enter Try.func14, Try.ntmps14
      go_wp2
      go_rounds 3
      go_returns
      simp [orI, hx, hy]
    · have ey : (y != 0) = true := by simp [hy]
      go_enter Try.func14, Try.ntmps14
      go_wp2
      go_rounds 3
      go_returns
      simp [orI, hx]
  · have ex : (x != 0) = true := by simp [hx]
    go_enter Try.func14, Try.ntmps14
    go_wp2
    go_rounds 3
    go_returns
    simp [orI, hx]
theorem ore_is {x y n : Int} (b : Nat) (w : World) (hn : Hid (orI x y = n)) (h0 : w.cell? ⟨b, 0, none⟩ = some (.int .i64 x)) (h1 : w.cell? ⟨b, 1, none⟩ = some (.int .i64 y)) :
    Calls Try.prog 14 #[.slice (some ⟨b, 0, none⟩) 2 2] w fun e w' => e = .returned (.int .i64 n) ∧ w' = w := by
  rw [← hn.out]
  exact ore_any x y b w h0 h1

/-- An index that was found, or none. -/
def Found (c : Int) (bs : List Bk) (w : World) (e : Ending) (w' : World) : Prop := ∃ m : Int, e = .returned (.int .i64 m) ∧ decide (0 ≤ m) = !holdB c bs ∧ Below w.heap.size w w'

set_option maxRecDepth 100000 in
set_option maxHeartbeats 3200000 in
theorem index_hold {bs : List Bk} {c : Int} {bt : Nat} {v : Value} {w : World} (hc0 : w.cell? ⟨bt, 0, none⟩ = some (.int .i64 c)) (h1 : IsB w v bs) :
    Calls Try.prog 38 #[v, .func (.func 27) #[] #[.pointer (some ⟨bt, 0, none⟩)]] w (Found c bs w) := by
  obtain ⟨at0, cap, rfl, hb⟩ := h1
  have i1 := hb.room
  have i2 := hb.most
  have hz0 := lt_of_cell hc0
  have HB := Lib.hid hb
  clear hb
  go_enter Try.func38, Try.ntmps38
  go_wp2_with fail
  go_loopw [8] (fun s8 wr => ∃ k : Nat, s8 = .int .i64 k ∧ k ≤ bs.length ∧ Hid (∀ i, i < k → c ≤ (bk bs i).le) ∧ Below w.heap.size w wr) (fun s8 _ => bs.length - (intOf s8).toNat)
  case atStart => exact ⟨0, rfl, by omega, Lib.hid (fun i hi => by omega), Below.refl _ _⟩
  case round =>
    obtain ⟨k, rfl, hk, HE, hB⟩ := hrel
    have hs := hB.size
    by_cases hlt : k < bs.length
    case neg =>
      have HN := Lib.hid (show decide ((0 : Int) ≤ -1) = !holdB c bs by
        rw [holdB_mk fun b hb => by
          obtain ⟨i, hi, rfl⟩ := List.getElem_of_mem hb
          have := HE.out i (by omega)
          rwa [bk_get hi] at this]
        rfl)
      go_wp2_with fail
      go_returns
      exact ⟨_, rfl, HN.out, hB⟩
    case pos =>
      obtain ⟨b, off, bu, ra, pe, le, pt, a, rfl, ebk, C0, C1, C2, C3, C4, C5⟩ := HB.out.at hlt
      have zb := lt_of_cell C0
      have c0 := cell_below hB C0
      have c1 := cell_below hB C1
      have c2 := cell_below hB C2
      have c3 := cell_below hB C3
      have c4 := cell_below hB C4
      have c5 := cell_below hB C5
      have ct := cell_below hB hc0
      by_cases hx : le < c
      · have HN := Lib.hid (show decide ((0 : Int) ≤ (k : Int)) = !holdB c bs by
          rw [holdB_no hlt (show (bk bs k).le < c by rw [ebk]; exact hx)]
          exact decide_eq_true (by omega))
        have d2 : decide (le < c) = true := decide_eq_true hx
        clear ebk
        go_wp2_with fail
        refine (holdc _ ct).mono ?_
        rintro e w1 ⟨rfl, hb⟩
        have hB1 : Below w.heap.size w w1 := below_thru (by go_grown) hb
        clear hb
        go_wp2_with fail
        go_returns
        exact ⟨_, rfl, HN.out, hB1⟩
      · have HE2 := Lib.hid (show ∀ i, i < k + 1 → c ≤ (bk bs i).le from fun i hi => by
          rcases Nat.lt_or_ge i k with z | z
          · exact HE.out i z
          · obtain rfl : i = k := by omega
            rw [ebk]
            show c ≤ le
            omega)
        have d2 : decide (le < c) = false := decide_eq_false hx
        clear ebk
        go_wp2_with fail
        refine (holdc _ ct).mono ?_
        rintro e w1 ⟨rfl, hb⟩
        have hB1 : Below w.heap.size w w1 := below_thru (by go_grown) hb
        clear hb
        go_wp2_with fail
        go_roundw
        case rel => exact ⟨k + 1, by go_num, by omega, HE2, hB1⟩
        case measure => simp [intOf]; omega

set_option maxRecDepth 100000 in
set_option maxHeartbeats 3200000 in
theorem contains_hold {bs : List Bk} {c : Int} {bt : Nat} {x : Bool} {v : Value} {w : World} (hc0 : w.cell? ⟨bt, 0, none⟩ = some (.int .i64 c)) (h : Hid (holdB c bs = x)) (h1 : IsB w v bs) :
    Calls Try.prog 26 #[v, .func (.func 27) #[] #[.pointer (some ⟨bt, 0, none⟩)]] w fun e w' => e = .returned (.bool (!x)) ∧ Below w.heap.size w w' := by
  go_enter Try.func26, Try.ntmps26
  go_wp2_with fail
  refine (index_hold hc0 h1).mono ?_
  rintro e w1 ⟨m, rfl, hm, hb⟩
  have HM := Lib.hid (show decide (0 ≤ m) = !x by rw [hm, h.out])
  clear hm
  go_wp2_with fail
  go_returns
  exact ⟨ret_b (by rw [← HM.out]), hb⟩

set_option maxRecDepth 100000 in
set_option maxHeartbeats 3200000 in
theorem holdr_is {bs : List Bk} {c : Int} {x : Bool} {v : Value} {w : World} (h : Hid (holdB c bs = x)) (h1 : IsB w v bs) :
    Calls Try.prog 17 #[v, .int .i64 c] w fun e w' => e = .returned (.bool x) ∧ Below w.heap.size w w' := by
  go_enter Try.func17, Try.ntmps17
  go_wp2_with fail
  refine (contains_hold (by go_cell) h (h1.alloc _)).mono ?_
  rintro e w1 ⟨rfl, hb⟩
  have hB1 : Below w.heap.size w w1 := below_thru (by go_grown) hb
  clear hb
  go_wp2_with fail
  go_returns
  exact ⟨ret_b (by simp), hB1⟩

set_option maxRecDepth 100000 in
set_option maxHeartbeats 3200000 in
theorem refillr {bs : List Bk} {v : Value} {w : World} {t : Int} (ht : isU t) (hr : Row bs) (h1 : IsB w v bs) :
    Calls Try.prog 13 #[v, .int .u64 t] w (GivesR (bs.map (Bk.fil t)) w) := by
  have HR := Lib.hid hr
  clear hr
  go_enter Try.func13, Try.ntmps13
  go_wp2_with fail
  refine (each_fil ht HR.out (by go_cell) (h1.alloc _)).mono ?_
  rintro e w1 ⟨v', rfl, ho, hb⟩
  have hB1 : Below w.heap.size w w1 := below_thru (by go_grown) hb
  have HO : Hid (OwnB w.heap.size w1 v' (bs.map (Bk.fil t))) := Lib.hid (ho.base (by simp))
  clear hb ho
  go_wp2_with fail
  go_returns
  exact ⟨_, rfl, HO.out, hB1⟩

set_option maxRecDepth 100000 in
set_option maxHeartbeats 3200000 in
theorem charger {bs : List Bk} {v : Value} {w : World} {c : Int} (h0 : 0 ≤ c) (hh : Hid (holdB c bs = true)) (hr : Row bs) (h1 : IsB w v bs) :
    Calls Try.prog 25 #[v, .int .i64 c] w (GivesR (bs.map (Bk.chg c)) w) := by
  have HR := Lib.hid hr
  clear hr
  go_enter Try.func25, Try.ntmps25
  go_wp2_with fail
  refine (each_chg h0 hh HR.out (by go_cell) (h1.alloc _)).mono ?_
  rintro e w1 ⟨v', rfl, ho, hb⟩
  have hB1 : Below w.heap.size w w1 := below_thru (by go_grown) hb
  have HO : Hid (OwnB w.heap.size w1 v' (bs.map (Bk.chg c))) := Lib.hid (ho.base (by simp))
  clear hb ho
  go_wp2_with fail
  go_returns
  exact ⟨_, rfl, HO.out, hB1⟩

set_option maxRecDepth 100000 in
set_option maxHeartbeats 3200000 in
theorem taker_is {bs zs : List Bk} {x : Bool} {t c : Int} {v : Value} {w : World} (hr : Row bs) (ht : isU t) (h0 : 0 ≤ c) (hv : Hid (takV bs t c = zs)) (hx : Hid (takB bs t c = x)) (h1 : IsB w v bs) :
    Calls Try.prog 16 #[v, .int .u64 t, .int .i64 c] w (GivesRB zs x w) := by
  obtain ⟨fs, ef⟩ : ∃ y, bs.map (Bk.fil t) = y := ⟨_, rfl⟩
  have hf := hr.fil ht
  rw [ef] at hf
  have HX := hx.out
  have HV := hv.out
  unfold takB at HX
  unfold takV at HV
  rw [ef] at HX HV
  have HF := Lib.hid hf
  have EF := Lib.hid ef
  have HR := Lib.hid hr
  have H1 := Lib.hid h1
  clear hf ef hr h1 hv hx
  have HX1 := Lib.hid HX
  have con : ∀ W V, IsB W V bs → Calls Try.prog 13 #[V, .int .u64 t] W (GivesR fs W) := fun W V h => by rw [← EF.out]; exact refillr ht HR.out h
  have HCON := Lib.hid con
  clear con
  cases x with
  | false =>
    have EV := Lib.hid (show fs = zs by rw [← HV, HX]; rfl)
    clear HX HV
    go_enter Try.func16, Try.ntmps16
    go_wp2_with fail
    refine (HCON.out _ _ H1.out).mono ?_
    rintro e w1 ⟨v1, rfl, ho, hb⟩
    have hB1 : Below w.heap.size w w1 := below_thru (by go_grown) hb
    have hs1 := hB1.size
    have O1 : Hid (OwnB w.heap.size w1 v1 (fs)) := Lib.hid (ho.base (by omega))
    clear hb ho
    go_wp2_with fail
    refine (holdr_is HX1 O1.out.is).mono ?_
    rintro e w2 ⟨rfl, hb⟩
    have hB2 : Below w.heap.size w w2 := below_thru (by go_grown) hb
    have hs2 := hB2.size
    have O2 : Hid (OwnB w.heap.size w2 v1 zs) := Lib.hid (by rw [← EV.out]; exact O1.out.below hb)
    clear hb
    go_wp2_with fail
    go_returns
    exact ⟨_, rfl, O2.out, hB2⟩
  | true =>
    have EV := Lib.hid (show fs.map (Bk.chg c) = zs by rw [← HV, HX]; rfl)
    clear HX HV
    go_enter Try.func16, Try.ntmps16
    go_wp2_with fail
    refine (HCON.out _ _ H1.out).mono ?_
    rintro e w1 ⟨v1, rfl, ho, hb⟩
    have hB1 : Below w.heap.size w w1 := below_thru (by go_grown) hb
    have hs1 := hB1.size
    have O1 : Hid (OwnB w.heap.size w1 v1 (fs)) := Lib.hid (ho.base (by omega))
    clear hb ho
    go_wp2_with fail
    refine (holdr_is HX1 O1.out.is).mono ?_
    rintro e w2 ⟨rfl, hb⟩
    have hB2 : Below w.heap.size w w2 := below_thru (by go_grown) hb
    have hs2 := hB2.size
    have O2 : Hid (OwnB w.heap.size w2 v1 fs) := Lib.hid (O1.out.below hb)
    clear hb O1
    go_wp2_with fail
    refine (charger h0 HX1 HF.out O2.out.is).mono ?_
    rintro e w3 ⟨v3, rfl, ho, hb⟩
    have hB3 : Below w.heap.size w w3 := below_thru (by go_grown) hb
    have hs3 := hB3.size
    have O3 : Hid (OwnB w.heap.size w3 v3 (zs)) := Lib.hid (by rw [← EV.out]; exact ho.base (by omega))
    clear hb ho
    go_wp2_with fail
    go_returns
    exact ⟨_, rfl, O3.out, hB3⟩

end Go.Proofs.Ytegbcagcfmijcaa
