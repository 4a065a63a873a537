/-
  LevelsTakes, walked over the contracts of package levels and its reference: it returns true.
-/
import Derived.Test.YtmpcpflpcfanjaaRef04
import Derived.Test.YtmpcpflpcfanjaaApp04
namespace Go.Proofs.Ytmpcpflpcfanjaa
open Go.RowKit

theorem lrefill_is {bs fs : List Bk} {t : Int} {v : Value} {w : World} (hr : Row bs) (ht : isU t) (hf : Hid (bs.map (Bk.fil t) = fs)) (h1 : IsB w v bs) :
    Calls Try.prog 19 #[v, .int .u64 t] w (GivesRE fs 0 w) := by
  rw [← hf.out]
  exact lrefill_ok hr ht h1

set_option maxRecDepth 100000 in
set_option maxHeartbeats 6400000 in
theorem takes4_great {bs : List Bk} {t c : Int} {v : Value} {w : World} (h : 20 < bs.length) (h1 : IsB w v bs) :
    Calls Try.prog 5 #[v, .int .u64 t, .int .i64 c] w fun e w' => e = .returned (.bool true) ∧ Below w.heap.size w w' := by
  have hg := Lib.hid (show decide (20 < (bs.length : Int)) = true from decide_eq_true (by omega))
  clear h
  go_enter Try.func5, Try.ntmps5
  go_wp2_with fail
  refine (great_is hg h1).mono ?_
  rintro e w1 ⟨rfl, hb⟩
  have hB1 : Below w.heap.size w w1 := below_thru (by go_grown) hb
  have hs1 := hB1.size
  clear hb
  go_wp2_with fail
  go_returns
  exact ⟨rfl, hB1⟩

set_option maxRecDepth 100000 in
set_option maxHeartbeats 12800000 in
theorem takes4_bad {bs : List Bk} {t c : Int} {v : Value} {w : World} (h : bs.length ≤ 20) (hn : rowE bs ≠ 0) (h1 : IsB w v bs) :
    Calls Try.prog 5 #[v, .int .u64 t, .int .i64 c] w fun e w' => e = .returned (.bool true) ∧ Below w.heap.size w w' := by
  obtain ⟨r, er⟩ : ∃ r, rowE bs = r := ⟨_, rfl⟩
  obtain ⟨q, eq⟩ : ∃ q, askE bs c = q := ⟨_, rfl⟩
  have hq : q ≠ 0 := fun z => hn (askE_zero (eq.trans z)).1
  rw [er] at hn
  have HE := Lib.hid er
  have HQ := Lib.hid eq
  have hr := hn
  clear hn er eq
  obtain ⟨n, hn⟩ : ∃ n, bs.length = n := ⟨_, rfl⟩
  obtain ⟨at0, cap, rfl, hb⟩ := h1
  have hb := hb
  have i1 := hb.room
  have i2 := hb.most
  have HB := Lib.hid hb
  rw [hn] at i1
  have h1 : IsB w (.slice at0 bs.length cap) bs := ⟨at0, cap, rfl, hb⟩
  rw [hn] at h1 ⊢
  have H1 := Lib.hid h1
  have HL := Lib.hid hn
  have hg := Lib.hid (show decide (20 < (bs.length : Int)) = false from decide_eq_false (by omega))
  have hn20 : n ≤ 20 := by omega
  clear hb h1 hn h
  obtain ⟨ti, hin, hz0, hz1, hz2⟩ := info_parts info_bucket
  go_enter Try.func5, Try.ntmps5
  go_wp2_with fail
  refine (great_is hg H1.out).mono ?_
  rintro e w1 ⟨rfl, hb⟩
  have hB1 : Below w.heap.size w w1 := below_thru (by go_grown) hb
  have hs1 := hB1.size
  have H1_ : Hid (IsB w1 (.slice at0 n cap) bs) := Lib.hid (by first | exact H1.out.below hb | exact (H1.out.alloc _).below hb | exact ((H1.out.alloc _).alloc _).below hb | exact (((H1.out.alloc _).alloc _).alloc _).below hb | exact H1.out.drew.below hb)
  clear H1; have H1 := H1_; clear H1_
  clear hb
  have B1 := Lib.hid (HB.out.below hB1)
  go_wp2_with (at_builtin; refine wpList_append_row (by rfl) _ _ 39 (by rfl) w.heap.size 26 ti _ 48 Try.underlying39 hin hz0 hz1 hz2 rfl _ 0 [] (by rfl) (own_empty hs1) at0 cap n bs HL.out (by rfl) (B1.out.alloc _) (by unfold maxLen; omega) (by omega) (by simp; omega) ?_; intro v9 w9 hown9 hgrow)
  have hB2 := (hB1.alloc hs1 (.cells #[] 26)).grown hgrow (by simp; omega) (own_blocks (own_empty (e := 26) hs1))
  have hs2 := hB2.size
  have OW : Hid (OwnB w.heap.size w9 v9 bs) := Lib.hid (by
    unfold OwnB
    rw [HL.out]
    simpa using hown9)
  have H9 := Lib.hid (IsB.ofN (HB.out.below hB2) HL.out)
  clear H1; have H1 := H9; clear H9
  clear hown9 hgrow B1 hB1 hs1
  go_wp2_with fail
  refine (lrefill_no HE hr H1.out).mono ?_
  rintro e w3 ⟨v3, rfl, ho, hb⟩
  have hB3 : Below w.heap.size w w3 := below_thru (by go_grown) hb
  have hs3 := hB3.size
  have H1_ : Hid (IsB w3 (.slice at0 n cap) bs) := Lib.hid (by first | exact H1.out.below hb | exact (H1.out.alloc _).below hb | exact ((H1.out.alloc _).alloc _).below hb | exact (((H1.out.alloc _).alloc _).alloc _).below hb | exact H1.out.drew.below hb)
  clear H1; have H1 := H1_; clear H1_
  have OW_ : Hid (OwnB w.heap.size w3 v9 bs) := Lib.hid (by first | exact OW.out.below hb | exact (OW.out.alloc _).below hb | exact ((OW.out.alloc _).alloc _).below hb | exact (((OW.out.alloc _).alloc _).alloc _).below hb | exact OW.out.drew.below hb)
  clear OW; have OW := OW_; clear OW_
  have O3 : Hid (OwnB w.heap.size w3 v3 ([])) := Lib.hid (ho.base (by first | omega | (simp; omega)))
  clear ho
  clear hb
  clear hB2 hs2
  go_wp2_with fail
  refine (rrefillr_no HE hr H1.out).mono ?_
  rintro e w4 ⟨v4, rfl, ho, hb⟩
  have hB4 : Below w.heap.size w w4 := below_thru (by go_grown) hb
  have hs4 := hB4.size
  have H1_ : Hid (IsB w4 (.slice at0 n cap) bs) := Lib.hid (by first | exact H1.out.below hb | exact (H1.out.alloc _).below hb | exact ((H1.out.alloc _).alloc _).below hb | exact (((H1.out.alloc _).alloc _).alloc _).below hb | exact H1.out.drew.below hb)
  clear H1; have H1 := H1_; clear H1_
  have OW_ : Hid (OwnB w.heap.size w4 v9 bs) := Lib.hid (by first | exact OW.out.below hb | exact (OW.out.alloc _).below hb | exact ((OW.out.alloc _).alloc _).below hb | exact (((OW.out.alloc _).alloc _).alloc _).below hb | exact OW.out.drew.below hb)
  clear OW; have OW := OW_; clear OW_
  have O3_ : Hid (OwnB w.heap.size w4 v3 ([])) := Lib.hid (by first | exact O3.out.below hb | exact (O3.out.alloc _).below hb | exact ((O3.out.alloc _).alloc _).below hb | exact (((O3.out.alloc _).alloc _).alloc _).below hb | exact O3.out.drew.below hb)
  clear O3; have O3 := O3_; clear O3_
  have O4 : Hid (OwnB w.heap.size w4 v4 ([])) := Lib.hid (ho.base (by first | omega | (simp; omega)))
  clear ho
  clear hb
  clear hB3 hs3
  go_wp2_with fail
  refine (lhold_no HQ hq H1.out).mono ?_
  rintro e w5 ⟨rfl, hb⟩
  have hB5 : Below w.heap.size w w5 := below_thru (by go_grown) hb
  have hs5 := hB5.size
  have H1_ : Hid (IsB w5 (.slice at0 n cap) bs) := Lib.hid (by first | exact H1.out.below hb | exact (H1.out.alloc _).below hb | exact ((H1.out.alloc _).alloc _).below hb | exact (((H1.out.alloc _).alloc _).alloc _).below hb | exact H1.out.drew.below hb)
  clear H1; have H1 := H1_; clear H1_
  have OW_ : Hid (OwnB w.heap.size w5 v9 bs) := Lib.hid (by first | exact OW.out.below hb | exact (OW.out.alloc _).below hb | exact ((OW.out.alloc _).alloc _).below hb | exact (((OW.out.alloc _).alloc _).alloc _).below hb | exact OW.out.drew.below hb)
  clear OW; have OW := OW_; clear OW_
  have O3_ : Hid (OwnB w.heap.size w5 v3 ([])) := Lib.hid (by first | exact O3.out.below hb | exact (O3.out.alloc _).below hb | exact ((O3.out.alloc _).alloc _).below hb | exact (((O3.out.alloc _).alloc _).alloc _).below hb | exact O3.out.drew.below hb)
  clear O3; have O3 := O3_; clear O3_
  have O4_ : Hid (OwnB w.heap.size w5 v4 ([])) := Lib.hid (by first | exact O4.out.below hb | exact (O4.out.alloc _).below hb | exact ((O4.out.alloc _).alloc _).below hb | exact (((O4.out.alloc _).alloc _).alloc _).below hb | exact O4.out.drew.below hb)
  clear O4; have O4 := O4_; clear O4_
  clear hb
  clear hB4 hs4
  go_wp2_with fail
  refine (rholdr_no HQ hq H1.out).mono ?_
  rintro e w6 ⟨rfl, hb⟩
  have hB6 : Below w.heap.size w w6 := below_thru (by go_grown) hb
  have hs6 := hB6.size
  have H1_ : Hid (IsB w6 (.slice at0 n cap) bs) := Lib.hid (by first | exact H1.out.below hb | exact (H1.out.alloc _).below hb | exact ((H1.out.alloc _).alloc _).below hb | exact (((H1.out.alloc _).alloc _).alloc _).below hb | exact H1.out.drew.below hb)
  clear H1; have H1 := H1_; clear H1_
  have OW_ : Hid (OwnB w.heap.size w6 v9 bs) := Lib.hid (by first | exact OW.out.below hb | exact (OW.out.alloc _).below hb | exact ((OW.out.alloc _).alloc _).below hb | exact (((OW.out.alloc _).alloc _).alloc _).below hb | exact OW.out.drew.below hb)
  clear OW; have OW := OW_; clear OW_
  have O3_ : Hid (OwnB w.heap.size w6 v3 ([])) := Lib.hid (by first | exact O3.out.below hb | exact (O3.out.alloc _).below hb | exact ((O3.out.alloc _).alloc _).below hb | exact (((O3.out.alloc _).alloc _).alloc _).below hb | exact O3.out.drew.below hb)
  clear O3; have O3 := O3_; clear O3_
  have O4_ : Hid (OwnB w.heap.size w6 v4 ([])) := Lib.hid (by first | exact O4.out.below hb | exact (O4.out.alloc _).below hb | exact ((O4.out.alloc _).alloc _).below hb | exact (((O4.out.alloc _).alloc _).alloc _).below hb | exact O4.out.drew.below hb)
  clear O4; have O4 := O4_; clear O4_
  clear hb
  clear hB5 hs5
  go_wp2_with fail
  refine (ltake_no HQ hq H1.out).mono ?_
  rintro e w7 ⟨v7, rfl, ho, hb⟩
  have hB7 : Below w.heap.size w w7 := below_thru (by go_grown) hb
  have hs7 := hB7.size
  have H1_ : Hid (IsB w7 (.slice at0 n cap) bs) := Lib.hid (by first | exact H1.out.below hb | exact (H1.out.alloc _).below hb | exact ((H1.out.alloc _).alloc _).below hb | exact (((H1.out.alloc _).alloc _).alloc _).below hb | exact H1.out.drew.below hb)
  clear H1; have H1 := H1_; clear H1_
  have OW_ : Hid (OwnB w.heap.size w7 v9 bs) := Lib.hid (by first | exact OW.out.below hb | exact (OW.out.alloc _).below hb | exact ((OW.out.alloc _).alloc _).below hb | exact (((OW.out.alloc _).alloc _).alloc _).below hb | exact OW.out.drew.below hb)
  clear OW; have OW := OW_; clear OW_
  have O3_ : Hid (OwnB w.heap.size w7 v3 ([])) := Lib.hid (by first | exact O3.out.below hb | exact (O3.out.alloc _).below hb | exact ((O3.out.alloc _).alloc _).below hb | exact (((O3.out.alloc _).alloc _).alloc _).below hb | exact O3.out.drew.below hb)
  clear O3; have O3 := O3_; clear O3_
  have O4_ : Hid (OwnB w.heap.size w7 v4 ([])) := Lib.hid (by first | exact O4.out.below hb | exact (O4.out.alloc _).below hb | exact ((O4.out.alloc _).alloc _).below hb | exact (((O4.out.alloc _).alloc _).alloc _).below hb | exact O4.out.drew.below hb)
  clear O4; have O4 := O4_; clear O4_
  have O7 : Hid (OwnB w.heap.size w7 v7 ([])) := Lib.hid (ho.base (by first | omega | (simp; omega)))
  clear ho
  clear hb
  clear hB6 hs6
  go_wp2_with fail
  refine (rtaker_no HQ hq H1.out).mono ?_
  rintro e w8 ⟨v8, rfl, ho, hb⟩
  have hB8 : Below w.heap.size w w8 := below_thru (by go_grown) hb
  have hs8 := hB8.size
  have H1_ : Hid (IsB w8 (.slice at0 n cap) bs) := Lib.hid (by first | exact H1.out.below hb | exact (H1.out.alloc _).below hb | exact ((H1.out.alloc _).alloc _).below hb | exact (((H1.out.alloc _).alloc _).alloc _).below hb | exact H1.out.drew.below hb)
  clear H1; have H1 := H1_; clear H1_
  have OW_ : Hid (OwnB w.heap.size w8 v9 bs) := Lib.hid (by first | exact OW.out.below hb | exact (OW.out.alloc _).below hb | exact ((OW.out.alloc _).alloc _).below hb | exact (((OW.out.alloc _).alloc _).alloc _).below hb | exact OW.out.drew.below hb)
  clear OW; have OW := OW_; clear OW_
  have O3_ : Hid (OwnB w.heap.size w8 v3 ([])) := Lib.hid (by first | exact O3.out.below hb | exact (O3.out.alloc _).below hb | exact ((O3.out.alloc _).alloc _).below hb | exact (((O3.out.alloc _).alloc _).alloc _).below hb | exact O3.out.drew.below hb)
  clear O3; have O3 := O3_; clear O3_
  have O4_ : Hid (OwnB w.heap.size w8 v4 ([])) := Lib.hid (by first | exact O4.out.below hb | exact (O4.out.alloc _).below hb | exact ((O4.out.alloc _).alloc _).below hb | exact (((O4.out.alloc _).alloc _).alloc _).below hb | exact O4.out.drew.below hb)
  clear O4; have O4 := O4_; clear O4_
  have O7_ : Hid (OwnB w.heap.size w8 v7 ([])) := Lib.hid (by first | exact O7.out.below hb | exact (O7.out.alloc _).below hb | exact ((O7.out.alloc _).alloc _).below hb | exact (((O7.out.alloc _).alloc _).alloc _).below hb | exact O7.out.drew.below hb)
  clear O7; have O7 := O7_; clear O7_
  have O8 : Hid (OwnB w.heap.size w8 v8 ([])) := Lib.hid (ho.base (by first | omega | (simp; omega)))
  clear ho
  clear hb
  clear hB7 hs7
  go_wp2_with fail
  refine (lwait_no HQ hq H1.out).mono ?_
  rintro e w9 ⟨rfl, hb⟩
  have hB9 : Below w.heap.size w w9 := below_thru (by go_grown) hb
  have hs9 := hB9.size
  have H1_ : Hid (IsB w9 (.slice at0 n cap) bs) := Lib.hid (by first | exact H1.out.below hb | exact (H1.out.alloc _).below hb | exact ((H1.out.alloc _).alloc _).below hb | exact (((H1.out.alloc _).alloc _).alloc _).below hb | exact H1.out.drew.below hb)
  clear H1; have H1 := H1_; clear H1_
  have OW_ : Hid (OwnB w.heap.size w9 v9 bs) := Lib.hid (by first | exact OW.out.below hb | exact (OW.out.alloc _).below hb | exact ((OW.out.alloc _).alloc _).below hb | exact (((OW.out.alloc _).alloc _).alloc _).below hb | exact OW.out.drew.below hb)
  clear OW; have OW := OW_; clear OW_
  have O3_ : Hid (OwnB w.heap.size w9 v3 ([])) := Lib.hid (by first | exact O3.out.below hb | exact (O3.out.alloc _).below hb | exact ((O3.out.alloc _).alloc _).below hb | exact (((O3.out.alloc _).alloc _).alloc _).below hb | exact O3.out.drew.below hb)
  clear O3; have O3 := O3_; clear O3_
  have O4_ : Hid (OwnB w.heap.size w9 v4 ([])) := Lib.hid (by first | exact O4.out.below hb | exact (O4.out.alloc _).below hb | exact ((O4.out.alloc _).alloc _).below hb | exact (((O4.out.alloc _).alloc _).alloc _).below hb | exact O4.out.drew.below hb)
  clear O4; have O4 := O4_; clear O4_
  have O7_ : Hid (OwnB w.heap.size w9 v7 ([])) := Lib.hid (by first | exact O7.out.below hb | exact (O7.out.alloc _).below hb | exact ((O7.out.alloc _).alloc _).below hb | exact (((O7.out.alloc _).alloc _).alloc _).below hb | exact O7.out.drew.below hb)
  clear O7; have O7 := O7_; clear O7_
  have O8_ : Hid (OwnB w.heap.size w9 v8 ([])) := Lib.hid (by first | exact O8.out.below hb | exact (O8.out.alloc _).below hb | exact ((O8.out.alloc _).alloc _).below hb | exact (((O8.out.alloc _).alloc _).alloc _).below hb | exact O8.out.drew.below hb)
  clear O8; have O8 := O8_; clear O8_
  clear hb
  clear hB8 hs8
  go_wp2_with fail
  refine (rwaitr_no HQ hq H1.out).mono ?_
  rintro e w10 ⟨rfl, hb⟩
  have hB10 : Below w.heap.size w w10 := below_thru (by go_grown) hb
  have hs10 := hB10.size
  have H1_ : Hid (IsB w10 (.slice at0 n cap) bs) := Lib.hid (by first | exact H1.out.below hb | exact (H1.out.alloc _).below hb | exact ((H1.out.alloc _).alloc _).below hb | exact (((H1.out.alloc _).alloc _).alloc _).below hb | exact H1.out.drew.below hb)
  clear H1; have H1 := H1_; clear H1_
  have OW_ : Hid (OwnB w.heap.size w10 v9 bs) := Lib.hid (by first | exact OW.out.below hb | exact (OW.out.alloc _).below hb | exact ((OW.out.alloc _).alloc _).below hb | exact (((OW.out.alloc _).alloc _).alloc _).below hb | exact OW.out.drew.below hb)
  clear OW; have OW := OW_; clear OW_
  have O3_ : Hid (OwnB w.heap.size w10 v3 ([])) := Lib.hid (by first | exact O3.out.below hb | exact (O3.out.alloc _).below hb | exact ((O3.out.alloc _).alloc _).below hb | exact (((O3.out.alloc _).alloc _).alloc _).below hb | exact O3.out.drew.below hb)
  clear O3; have O3 := O3_; clear O3_
  have O4_ : Hid (OwnB w.heap.size w10 v4 ([])) := Lib.hid (by first | exact O4.out.below hb | exact (O4.out.alloc _).below hb | exact ((O4.out.alloc _).alloc _).below hb | exact (((O4.out.alloc _).alloc _).alloc _).below hb | exact O4.out.drew.below hb)
  clear O4; have O4 := O4_; clear O4_
  have O7_ : Hid (OwnB w.heap.size w10 v7 ([])) := Lib.hid (by first | exact O7.out.below hb | exact (O7.out.alloc _).below hb | exact ((O7.out.alloc _).alloc _).below hb | exact (((O7.out.alloc _).alloc _).alloc _).below hb | exact O7.out.drew.below hb)
  clear O7; have O7 := O7_; clear O7_
  have O8_ : Hid (OwnB w.heap.size w10 v8 ([])) := Lib.hid (by first | exact O8.out.below hb | exact (O8.out.alloc _).below hb | exact ((O8.out.alloc _).alloc _).below hb | exact (((O8.out.alloc _).alloc _).alloc _).below hb | exact O8.out.drew.below hb)
  clear O8; have O8 := O8_; clear O8_
  clear hb
  clear hB9 hs9
  go_wp2_with fail
  refine (checkr_is HE H1.out).mono ?_
  rintro e w11 ⟨rfl, hb⟩
  have hB11 : Below w.heap.size w w11 := below_thru (by go_grown) hb
  have hs11 := hB11.size
  have H1_ : Hid (IsB w11 (.slice at0 n cap) bs) := Lib.hid (by first | exact H1.out.below hb | exact (H1.out.alloc _).below hb | exact ((H1.out.alloc _).alloc _).below hb | exact (((H1.out.alloc _).alloc _).alloc _).below hb | exact H1.out.drew.below hb)
  clear H1; have H1 := H1_; clear H1_
  have OW_ : Hid (OwnB w.heap.size w11 v9 bs) := Lib.hid (by first | exact OW.out.below hb | exact (OW.out.alloc _).below hb | exact ((OW.out.alloc _).alloc _).below hb | exact (((OW.out.alloc _).alloc _).alloc _).below hb | exact OW.out.drew.below hb)
  clear OW; have OW := OW_; clear OW_
  have O3_ : Hid (OwnB w.heap.size w11 v3 ([])) := Lib.hid (by first | exact O3.out.below hb | exact (O3.out.alloc _).below hb | exact ((O3.out.alloc _).alloc _).below hb | exact (((O3.out.alloc _).alloc _).alloc _).below hb | exact O3.out.drew.below hb)
  clear O3; have O3 := O3_; clear O3_
  have O4_ : Hid (OwnB w.heap.size w11 v4 ([])) := Lib.hid (by first | exact O4.out.below hb | exact (O4.out.alloc _).below hb | exact ((O4.out.alloc _).alloc _).below hb | exact (((O4.out.alloc _).alloc _).alloc _).below hb | exact O4.out.drew.below hb)
  clear O4; have O4 := O4_; clear O4_
  have O7_ : Hid (OwnB w.heap.size w11 v7 ([])) := Lib.hid (by first | exact O7.out.below hb | exact (O7.out.alloc _).below hb | exact ((O7.out.alloc _).alloc _).below hb | exact (((O7.out.alloc _).alloc _).alloc _).below hb | exact O7.out.drew.below hb)
  clear O7; have O7 := O7_; clear O7_
  have O8_ : Hid (OwnB w.heap.size w11 v8 ([])) := Lib.hid (by first | exact O8.out.below hb | exact (O8.out.alloc _).below hb | exact ((O8.out.alloc _).alloc _).below hb | exact (((O8.out.alloc _).alloc _).alloc _).below hb | exact O8.out.drew.below hb)
  clear O8; have O8 := O8_; clear O8_
  clear hb
  clear hB10 hs10
  go_wp2_with fail
  refine (rcheckr_is HE H1.out).mono ?_
  rintro e w12 ⟨rfl, hb⟩
  have hB12 : Below w.heap.size w w12 := below_thru (by go_grown) hb
  have hs12 := hB12.size
  have H1_ : Hid (IsB w12 (.slice at0 n cap) bs) := Lib.hid (by first | exact H1.out.below hb | exact (H1.out.alloc _).below hb | exact ((H1.out.alloc _).alloc _).below hb | exact (((H1.out.alloc _).alloc _).alloc _).below hb | exact H1.out.drew.below hb)
  clear H1; have H1 := H1_; clear H1_
  have OW_ : Hid (OwnB w.heap.size w12 v9 bs) := Lib.hid (by first | exact OW.out.below hb | exact (OW.out.alloc _).below hb | exact ((OW.out.alloc _).alloc _).below hb | exact (((OW.out.alloc _).alloc _).alloc _).below hb | exact OW.out.drew.below hb)
  clear OW; have OW := OW_; clear OW_
  have O3_ : Hid (OwnB w.heap.size w12 v3 ([])) := Lib.hid (by first | exact O3.out.below hb | exact (O3.out.alloc _).below hb | exact ((O3.out.alloc _).alloc _).below hb | exact (((O3.out.alloc _).alloc _).alloc _).below hb | exact O3.out.drew.below hb)
  clear O3; have O3 := O3_; clear O3_
  have O4_ : Hid (OwnB w.heap.size w12 v4 ([])) := Lib.hid (by first | exact O4.out.below hb | exact (O4.out.alloc _).below hb | exact ((O4.out.alloc _).alloc _).below hb | exact (((O4.out.alloc _).alloc _).alloc _).below hb | exact O4.out.drew.below hb)
  clear O4; have O4 := O4_; clear O4_
  have O7_ : Hid (OwnB w.heap.size w12 v7 ([])) := Lib.hid (by first | exact O7.out.below hb | exact (O7.out.alloc _).below hb | exact ((O7.out.alloc _).alloc _).below hb | exact (((O7.out.alloc _).alloc _).alloc _).below hb | exact O7.out.drew.below hb)
  clear O7; have O7 := O7_; clear O7_
  have O8_ : Hid (OwnB w.heap.size w12 v8 ([])) := Lib.hid (by first | exact O8.out.below hb | exact (O8.out.alloc _).below hb | exact ((O8.out.alloc _).alloc _).below hb | exact (((O8.out.alloc _).alloc _).alloc _).below hb | exact O8.out.drew.below hb)
  clear O8; have O8 := O8_; clear O8_
  clear hb
  clear hB11 hs11
  go_wp2_with fail
  refine (sameb_tt O3.out.is O4.out.is).mono ?_
  rintro e w13 ⟨rfl, hb⟩
  have hB13 : Below w.heap.size w w13 := below_thru (by go_grown) hb
  have hs13 := hB13.size
  have H1_ : Hid (IsB w13 (.slice at0 n cap) bs) := Lib.hid (by first | exact H1.out.below hb | exact (H1.out.alloc _).below hb | exact ((H1.out.alloc _).alloc _).below hb | exact (((H1.out.alloc _).alloc _).alloc _).below hb | exact H1.out.drew.below hb)
  clear H1; have H1 := H1_; clear H1_
  have OW_ : Hid (OwnB w.heap.size w13 v9 bs) := Lib.hid (by first | exact OW.out.below hb | exact (OW.out.alloc _).below hb | exact ((OW.out.alloc _).alloc _).below hb | exact (((OW.out.alloc _).alloc _).alloc _).below hb | exact OW.out.drew.below hb)
  clear OW; have OW := OW_; clear OW_
  have O3_ : Hid (OwnB w.heap.size w13 v3 ([])) := Lib.hid (by first | exact O3.out.below hb | exact (O3.out.alloc _).below hb | exact ((O3.out.alloc _).alloc _).below hb | exact (((O3.out.alloc _).alloc _).alloc _).below hb | exact O3.out.drew.below hb)
  clear O3; have O3 := O3_; clear O3_
  have O4_ : Hid (OwnB w.heap.size w13 v4 ([])) := Lib.hid (by first | exact O4.out.below hb | exact (O4.out.alloc _).below hb | exact ((O4.out.alloc _).alloc _).below hb | exact (((O4.out.alloc _).alloc _).alloc _).below hb | exact O4.out.drew.below hb)
  clear O4; have O4 := O4_; clear O4_
  have O7_ : Hid (OwnB w.heap.size w13 v7 ([])) := Lib.hid (by first | exact O7.out.below hb | exact (O7.out.alloc _).below hb | exact ((O7.out.alloc _).alloc _).below hb | exact (((O7.out.alloc _).alloc _).alloc _).below hb | exact O7.out.drew.below hb)
  clear O7; have O7 := O7_; clear O7_
  have O8_ : Hid (OwnB w.heap.size w13 v8 ([])) := Lib.hid (by first | exact O8.out.below hb | exact (O8.out.alloc _).below hb | exact ((O8.out.alloc _).alloc _).below hb | exact (((O8.out.alloc _).alloc _).alloc _).below hb | exact O8.out.drew.below hb)
  clear O8; have O8 := O8_; clear O8_
  clear hb
  clear hB12 hs12
  go_wp2_with fail
  refine (sameb_tt O7.out.is O8.out.is).mono ?_
  rintro e w14 ⟨rfl, hb⟩
  have hB14 : Below w.heap.size w w14 := below_thru (by go_grown) hb
  have hs14 := hB14.size
  have H1_ : Hid (IsB w14 (.slice at0 n cap) bs) := Lib.hid (by first | exact H1.out.below hb | exact (H1.out.alloc _).below hb | exact ((H1.out.alloc _).alloc _).below hb | exact (((H1.out.alloc _).alloc _).alloc _).below hb | exact H1.out.drew.below hb)
  clear H1; have H1 := H1_; clear H1_
  have OW_ : Hid (OwnB w.heap.size w14 v9 bs) := Lib.hid (by first | exact OW.out.below hb | exact (OW.out.alloc _).below hb | exact ((OW.out.alloc _).alloc _).below hb | exact (((OW.out.alloc _).alloc _).alloc _).below hb | exact OW.out.drew.below hb)
  clear OW; have OW := OW_; clear OW_
  have O3_ : Hid (OwnB w.heap.size w14 v3 ([])) := Lib.hid (by first | exact O3.out.below hb | exact (O3.out.alloc _).below hb | exact ((O3.out.alloc _).alloc _).below hb | exact (((O3.out.alloc _).alloc _).alloc _).below hb | exact O3.out.drew.below hb)
  clear O3; have O3 := O3_; clear O3_
  have O4_ : Hid (OwnB w.heap.size w14 v4 ([])) := Lib.hid (by first | exact O4.out.below hb | exact (O4.out.alloc _).below hb | exact ((O4.out.alloc _).alloc _).below hb | exact (((O4.out.alloc _).alloc _).alloc _).below hb | exact O4.out.drew.below hb)
  clear O4; have O4 := O4_; clear O4_
  have O7_ : Hid (OwnB w.heap.size w14 v7 ([])) := Lib.hid (by first | exact O7.out.below hb | exact (O7.out.alloc _).below hb | exact ((O7.out.alloc _).alloc _).below hb | exact (((O7.out.alloc _).alloc _).alloc _).below hb | exact O7.out.drew.below hb)
  clear O7; have O7 := O7_; clear O7_
  have O8_ : Hid (OwnB w.heap.size w14 v8 ([])) := Lib.hid (by first | exact O8.out.below hb | exact (O8.out.alloc _).below hb | exact ((O8.out.alloc _).alloc _).below hb | exact (((O8.out.alloc _).alloc _).alloc _).below hb | exact O8.out.drew.below hb)
  clear O8; have O8 := O8_; clear O8_
  clear hb
  clear hB13 hs13
  go_wp2_with fail
  refine (sameb_tt H1.out OW.out.is).mono ?_
  rintro e w15 ⟨rfl, hb⟩
  have hB15 : Below w.heap.size w w15 := below_thru (by go_grown) hb
  have hs15 := hB15.size
  have H1_ : Hid (IsB w15 (.slice at0 n cap) bs) := Lib.hid (by first | exact H1.out.below hb | exact (H1.out.alloc _).below hb | exact ((H1.out.alloc _).alloc _).below hb | exact (((H1.out.alloc _).alloc _).alloc _).below hb | exact H1.out.drew.below hb)
  clear H1; have H1 := H1_; clear H1_
  have OW_ : Hid (OwnB w.heap.size w15 v9 bs) := Lib.hid (by first | exact OW.out.below hb | exact (OW.out.alloc _).below hb | exact ((OW.out.alloc _).alloc _).below hb | exact (((OW.out.alloc _).alloc _).alloc _).below hb | exact OW.out.drew.below hb)
  clear OW; have OW := OW_; clear OW_
  have O3_ : Hid (OwnB w.heap.size w15 v3 ([])) := Lib.hid (by first | exact O3.out.below hb | exact (O3.out.alloc _).below hb | exact ((O3.out.alloc _).alloc _).below hb | exact (((O3.out.alloc _).alloc _).alloc _).below hb | exact O3.out.drew.below hb)
  clear O3; have O3 := O3_; clear O3_
  have O4_ : Hid (OwnB w.heap.size w15 v4 ([])) := Lib.hid (by first | exact O4.out.below hb | exact (O4.out.alloc _).below hb | exact ((O4.out.alloc _).alloc _).below hb | exact (((O4.out.alloc _).alloc _).alloc _).below hb | exact O4.out.drew.below hb)
  clear O4; have O4 := O4_; clear O4_
  have O7_ : Hid (OwnB w.heap.size w15 v7 ([])) := Lib.hid (by first | exact O7.out.below hb | exact (O7.out.alloc _).below hb | exact ((O7.out.alloc _).alloc _).below hb | exact (((O7.out.alloc _).alloc _).alloc _).below hb | exact O7.out.drew.below hb)
  clear O7; have O7 := O7_; clear O7_
  have O8_ : Hid (OwnB w.heap.size w15 v8 ([])) := Lib.hid (by first | exact O8.out.below hb | exact (O8.out.alloc _).below hb | exact ((O8.out.alloc _).alloc _).below hb | exact (((O8.out.alloc _).alloc _).alloc _).below hb | exact O8.out.drew.below hb)
  clear O8; have O8 := O8_; clear O8_
  clear hb
  clear hB14 hs14
  go_wp2_with fail
  go_returns
  exact ⟨rfl, hB15⟩

set_option maxRecDepth 100000 in
set_option maxHeartbeats 12800000 in
theorem takes4_arg {bs : List Bk} {t c : Int} {v : Value} {w : World} (h : bs.length ≤ 20) (hr : Row bs) (ht : isU t) (hc : c < 0) (h1 : IsB w v bs) :
    Calls Try.prog 5 #[v, .int .u64 t, .int .i64 c] w fun e w' => e = .returned (.bool true) ∧ Below w.heap.size w w' := by
  obtain ⟨q, eq⟩ : ∃ q, askE bs c = q := ⟨_, rfl⟩
  obtain ⟨fs, ef⟩ : ∃ y, bs.map (Bk.fil t) = y := ⟨_, rfl⟩
  have hq : q ≠ 0 := fun z => by have := (askE_zero (eq.trans z)).2; omega
  have HE := Lib.hid hr.e
  have EF := Lib.hid ef
  have HR := Lib.hid hr
  have HQ := Lib.hid eq
  clear eq hr hc ef
  obtain ⟨n, hn⟩ : ∃ n, bs.length = n := ⟨_, rfl⟩
  obtain ⟨at0, cap, rfl, hb⟩ := h1
  have hb := hb
  have i1 := hb.room
  have i2 := hb.most
  have HB := Lib.hid hb
  rw [hn] at i1
  have h1 : IsB w (.slice at0 bs.length cap) bs := ⟨at0, cap, rfl, hb⟩
  rw [hn] at h1 ⊢
  have H1 := Lib.hid h1
  have HL := Lib.hid hn
  have hg := Lib.hid (show decide (20 < (bs.length : Int)) = false from decide_eq_false (by omega))
  have hn20 : n ≤ 20 := by omega
  clear hb h1 hn h
  obtain ⟨ti, hin, hz0, hz1, hz2⟩ := info_parts info_bucket
  go_enter Try.func5, Try.ntmps5
  go_wp2_with fail
  refine (great_is hg H1.out).mono ?_
  rintro e w1 ⟨rfl, hb⟩
  have hB1 : Below w.heap.size w w1 := below_thru (by go_grown) hb
  have hs1 := hB1.size
  have H1_ : Hid (IsB w1 (.slice at0 n cap) bs) := Lib.hid (by first | exact H1.out.below hb | exact (H1.out.alloc _).below hb | exact ((H1.out.alloc _).alloc _).below hb | exact (((H1.out.alloc _).alloc _).alloc _).below hb | exact H1.out.drew.below hb)
  clear H1; have H1 := H1_; clear H1_
  clear hb
  have B1 := Lib.hid (HB.out.below hB1)
  go_wp2_with (at_builtin; refine wpList_append_row (by rfl) _ _ 39 (by rfl) w.heap.size 26 ti _ 48 Try.underlying39 hin hz0 hz1 hz2 rfl _ 0 [] (by rfl) (own_empty hs1) at0 cap n bs HL.out (by rfl) (B1.out.alloc _) (by unfold maxLen; omega) (by omega) (by simp; omega) ?_; intro v9 w9 hown9 hgrow)
  have hB2 := (hB1.alloc hs1 (.cells #[] 26)).grown hgrow (by simp; omega) (own_blocks (own_empty (e := 26) hs1))
  have hs2 := hB2.size
  have OW : Hid (OwnB w.heap.size w9 v9 bs) := Lib.hid (by
    unfold OwnB
    rw [HL.out]
    simpa using hown9)
  have H9 := Lib.hid (IsB.ofN (HB.out.below hB2) HL.out)
  clear H1; have H1 := H9; clear H9
  clear hown9 hgrow B1 hB1 hs1
  go_wp2_with fail
  refine (lrefill_is HR.out ht EF H1.out).mono ?_
  rintro e w3 ⟨v3, rfl, ho, hb⟩
  have hB3 : Below w.heap.size w w3 := below_thru (by go_grown) hb
  have hs3 := hB3.size
  have H1_ : Hid (IsB w3 (.slice at0 n cap) bs) := Lib.hid (by first | exact H1.out.below hb | exact (H1.out.alloc _).below hb | exact ((H1.out.alloc _).alloc _).below hb | exact (((H1.out.alloc _).alloc _).alloc _).below hb | exact H1.out.drew.below hb)
  clear H1; have H1 := H1_; clear H1_
  have OW_ : Hid (OwnB w.heap.size w3 v9 bs) := Lib.hid (by first | exact OW.out.below hb | exact (OW.out.alloc _).below hb | exact ((OW.out.alloc _).alloc _).below hb | exact (((OW.out.alloc _).alloc _).alloc _).below hb | exact OW.out.drew.below hb)
  clear OW; have OW := OW_; clear OW_
  have O3 : Hid (OwnB w.heap.size w3 v3 (fs)) := Lib.hid (ho.base (by first | omega | (simp; omega)))
  clear ho
  clear hb
  clear hB2 hs2
  go_wp2_with fail
  refine (rrefillr_ok HR.out ht EF H1.out).mono ?_
  rintro e w4 ⟨v4, rfl, ho, hb⟩
  have hB4 : Below w.heap.size w w4 := below_thru (by go_grown) hb
  have hs4 := hB4.size
  have H1_ : Hid (IsB w4 (.slice at0 n cap) bs) := Lib.hid (by first | exact H1.out.below hb | exact (H1.out.alloc _).below hb | exact ((H1.out.alloc _).alloc _).below hb | exact (((H1.out.alloc _).alloc _).alloc _).below hb | exact H1.out.drew.below hb)
  clear H1; have H1 := H1_; clear H1_
  have OW_ : Hid (OwnB w.heap.size w4 v9 bs) := Lib.hid (by first | exact OW.out.below hb | exact (OW.out.alloc _).below hb | exact ((OW.out.alloc _).alloc _).below hb | exact (((OW.out.alloc _).alloc _).alloc _).below hb | exact OW.out.drew.below hb)
  clear OW; have OW := OW_; clear OW_
  have O3_ : Hid (OwnB w.heap.size w4 v3 (fs)) := Lib.hid (by first | exact O3.out.below hb | exact (O3.out.alloc _).below hb | exact ((O3.out.alloc _).alloc _).below hb | exact (((O3.out.alloc _).alloc _).alloc _).below hb | exact O3.out.drew.below hb)
  clear O3; have O3 := O3_; clear O3_
  have O4 : Hid (OwnB w.heap.size w4 v4 (fs)) := Lib.hid (ho.base (by first | omega | (simp; omega)))
  clear ho
  clear hb
  clear hB3 hs3
  go_wp2_with fail
  refine (lhold_no HQ hq H1.out).mono ?_
  rintro e w5 ⟨rfl, hb⟩
  have hB5 : Below w.heap.size w w5 := below_thru (by go_grown) hb
  have hs5 := hB5.size
  have H1_ : Hid (IsB w5 (.slice at0 n cap) bs) := Lib.hid (by first | exact H1.out.below hb | exact (H1.out.alloc _).below hb | exact ((H1.out.alloc _).alloc _).below hb | exact (((H1.out.alloc _).alloc _).alloc _).below hb | exact H1.out.drew.below hb)
  clear H1; have H1 := H1_; clear H1_
  have OW_ : Hid (OwnB w.heap.size w5 v9 bs) := Lib.hid (by first | exact OW.out.below hb | exact (OW.out.alloc _).below hb | exact ((OW.out.alloc _).alloc _).below hb | exact (((OW.out.alloc _).alloc _).alloc _).below hb | exact OW.out.drew.below hb)
  clear OW; have OW := OW_; clear OW_
  have O3_ : Hid (OwnB w.heap.size w5 v3 (fs)) := Lib.hid (by first | exact O3.out.below hb | exact (O3.out.alloc _).below hb | exact ((O3.out.alloc _).alloc _).below hb | exact (((O3.out.alloc _).alloc _).alloc _).below hb | exact O3.out.drew.below hb)
  clear O3; have O3 := O3_; clear O3_
  have O4_ : Hid (OwnB w.heap.size w5 v4 (fs)) := Lib.hid (by first | exact O4.out.below hb | exact (O4.out.alloc _).below hb | exact ((O4.out.alloc _).alloc _).below hb | exact (((O4.out.alloc _).alloc _).alloc _).below hb | exact O4.out.drew.below hb)
  clear O4; have O4 := O4_; clear O4_
  clear hb
  clear hB4 hs4
  go_wp2_with fail
  refine (rholdr_no HQ hq H1.out).mono ?_
  rintro e w6 ⟨rfl, hb⟩
  have hB6 : Below w.heap.size w w6 := below_thru (by go_grown) hb
  have hs6 := hB6.size
  have H1_ : Hid (IsB w6 (.slice at0 n cap) bs) := Lib.hid (by first | exact H1.out.below hb | exact (H1.out.alloc _).below hb | exact ((H1.out.alloc _).alloc _).below hb | exact (((H1.out.alloc _).alloc _).alloc _).below hb | exact H1.out.drew.below hb)
  clear H1; have H1 := H1_; clear H1_
  have OW_ : Hid (OwnB w.heap.size w6 v9 bs) := Lib.hid (by first | exact OW.out.below hb | exact (OW.out.alloc _).below hb | exact ((OW.out.alloc _).alloc _).below hb | exact (((OW.out.alloc _).alloc _).alloc _).below hb | exact OW.out.drew.below hb)
  clear OW; have OW := OW_; clear OW_
  have O3_ : Hid (OwnB w.heap.size w6 v3 (fs)) := Lib.hid (by first | exact O3.out.below hb | exact (O3.out.alloc _).below hb | exact ((O3.out.alloc _).alloc _).below hb | exact (((O3.out.alloc _).alloc _).alloc _).below hb | exact O3.out.drew.below hb)
  clear O3; have O3 := O3_; clear O3_
  have O4_ : Hid (OwnB w.heap.size w6 v4 (fs)) := Lib.hid (by first | exact O4.out.below hb | exact (O4.out.alloc _).below hb | exact ((O4.out.alloc _).alloc _).below hb | exact (((O4.out.alloc _).alloc _).alloc _).below hb | exact O4.out.drew.below hb)
  clear O4; have O4 := O4_; clear O4_
  clear hb
  clear hB5 hs5
  go_wp2_with fail
  refine (ltake_no HQ hq H1.out).mono ?_
  rintro e w7 ⟨v7, rfl, ho, hb⟩
  have hB7 : Below w.heap.size w w7 := below_thru (by go_grown) hb
  have hs7 := hB7.size
  have H1_ : Hid (IsB w7 (.slice at0 n cap) bs) := Lib.hid (by first | exact H1.out.below hb | exact (H1.out.alloc _).below hb | exact ((H1.out.alloc _).alloc _).below hb | exact (((H1.out.alloc _).alloc _).alloc _).below hb | exact H1.out.drew.below hb)
  clear H1; have H1 := H1_; clear H1_
  have OW_ : Hid (OwnB w.heap.size w7 v9 bs) := Lib.hid (by first | exact OW.out.below hb | exact (OW.out.alloc _).below hb | exact ((OW.out.alloc _).alloc _).below hb | exact (((OW.out.alloc _).alloc _).alloc _).below hb | exact OW.out.drew.below hb)
  clear OW; have OW := OW_; clear OW_
  have O3_ : Hid (OwnB w.heap.size w7 v3 (fs)) := Lib.hid (by first | exact O3.out.below hb | exact (O3.out.alloc _).below hb | exact ((O3.out.alloc _).alloc _).below hb | exact (((O3.out.alloc _).alloc _).alloc _).below hb | exact O3.out.drew.below hb)
  clear O3; have O3 := O3_; clear O3_
  have O4_ : Hid (OwnB w.heap.size w7 v4 (fs)) := Lib.hid (by first | exact O4.out.below hb | exact (O4.out.alloc _).below hb | exact ((O4.out.alloc _).alloc _).below hb | exact (((O4.out.alloc _).alloc _).alloc _).below hb | exact O4.out.drew.below hb)
  clear O4; have O4 := O4_; clear O4_
  have O7 : Hid (OwnB w.heap.size w7 v7 ([])) := Lib.hid (ho.base (by first | omega | (simp; omega)))
  clear ho
  clear hb
  clear hB6 hs6
  go_wp2_with fail
  refine (rtaker_no HQ hq H1.out).mono ?_
  rintro e w8 ⟨v8, rfl, ho, hb⟩
  have hB8 : Below w.heap.size w w8 := below_thru (by go_grown) hb
  have hs8 := hB8.size
  have H1_ : Hid (IsB w8 (.slice at0 n cap) bs) := Lib.hid (by first | exact H1.out.below hb | exact (H1.out.alloc _).below hb | exact ((H1.out.alloc _).alloc _).below hb | exact (((H1.out.alloc _).alloc _).alloc _).below hb | exact H1.out.drew.below hb)
  clear H1; have H1 := H1_; clear H1_
  have OW_ : Hid (OwnB w.heap.size w8 v9 bs) := Lib.hid (by first | exact OW.out.below hb | exact (OW.out.alloc _).below hb | exact ((OW.out.alloc _).alloc _).below hb | exact (((OW.out.alloc _).alloc _).alloc _).below hb | exact OW.out.drew.below hb)
  clear OW; have OW := OW_; clear OW_
  have O3_ : Hid (OwnB w.heap.size w8 v3 (fs)) := Lib.hid (by first | exact O3.out.below hb | exact (O3.out.alloc _).below hb | exact ((O3.out.alloc _).alloc _).below hb | exact (((O3.out.alloc _).alloc _).alloc _).below hb | exact O3.out.drew.below hb)
  clear O3; have O3 := O3_; clear O3_
  have O4_ : Hid (OwnB w.heap.size w8 v4 (fs)) := Lib.hid (by first | exact O4.out.below hb | exact (O4.out.alloc _).below hb | exact ((O4.out.alloc _).alloc _).below hb | exact (((O4.out.alloc _).alloc _).alloc _).below hb | exact O4.out.drew.below hb)
  clear O4; have O4 := O4_; clear O4_
  have O7_ : Hid (OwnB w.heap.size w8 v7 ([])) := Lib.hid (by first | exact O7.out.below hb | exact (O7.out.alloc _).below hb | exact ((O7.out.alloc _).alloc _).below hb | exact (((O7.out.alloc _).alloc _).alloc _).below hb | exact O7.out.drew.below hb)
  clear O7; have O7 := O7_; clear O7_
  have O8 : Hid (OwnB w.heap.size w8 v8 ([])) := Lib.hid (ho.base (by first | omega | (simp; omega)))
  clear ho
  clear hb
  clear hB7 hs7
  go_wp2_with fail
  refine (lwait_no HQ hq H1.out).mono ?_
  rintro e w9 ⟨rfl, hb⟩
  have hB9 : Below w.heap.size w w9 := below_thru (by go_grown) hb
  have hs9 := hB9.size
  have H1_ : Hid (IsB w9 (.slice at0 n cap) bs) := Lib.hid (by first | exact H1.out.below hb | exact (H1.out.alloc _).below hb | exact ((H1.out.alloc _).alloc _).below hb | exact (((H1.out.alloc _).alloc _).alloc _).below hb | exact H1.out.drew.below hb)
  clear H1; have H1 := H1_; clear H1_
  have OW_ : Hid (OwnB w.heap.size w9 v9 bs) := Lib.hid (by first | exact OW.out.below hb | exact (OW.out.alloc _).below hb | exact ((OW.out.alloc _).alloc _).below hb | exact (((OW.out.alloc _).alloc _).alloc _).below hb | exact OW.out.drew.below hb)
  clear OW; have OW := OW_; clear OW_
  have O3_ : Hid (OwnB w.heap.size w9 v3 (fs)) := Lib.hid (by first | exact O3.out.below hb | exact (O3.out.alloc _).below hb | exact ((O3.out.alloc _).alloc _).below hb | exact (((O3.out.alloc _).alloc _).alloc _).below hb | exact O3.out.drew.below hb)
  clear O3; have O3 := O3_; clear O3_
  have O4_ : Hid (OwnB w.heap.size w9 v4 (fs)) := Lib.hid (by first | exact O4.out.below hb | exact (O4.out.alloc _).below hb | exact ((O4.out.alloc _).alloc _).below hb | exact (((O4.out.alloc _).alloc _).alloc _).below hb | exact O4.out.drew.below hb)
  clear O4; have O4 := O4_; clear O4_
  have O7_ : Hid (OwnB w.heap.size w9 v7 ([])) := Lib.hid (by first | exact O7.out.below hb | exact (O7.out.alloc _).below hb | exact ((O7.out.alloc _).alloc _).below hb | exact (((O7.out.alloc _).alloc _).alloc _).below hb | exact O7.out.drew.below hb)
  clear O7; have O7 := O7_; clear O7_
  have O8_ : Hid (OwnB w.heap.size w9 v8 ([])) := Lib.hid (by first | exact O8.out.below hb | exact (O8.out.alloc _).below hb | exact ((O8.out.alloc _).alloc _).below hb | exact (((O8.out.alloc _).alloc _).alloc _).below hb | exact O8.out.drew.below hb)
  clear O8; have O8 := O8_; clear O8_
  clear hb
  clear hB8 hs8
  go_wp2_with fail
  refine (rwaitr_no HQ hq H1.out).mono ?_
  rintro e w10 ⟨rfl, hb⟩
  have hB10 : Below w.heap.size w w10 := below_thru (by go_grown) hb
  have hs10 := hB10.size
  have H1_ : Hid (IsB w10 (.slice at0 n cap) bs) := Lib.hid (by first | exact H1.out.below hb | exact (H1.out.alloc _).below hb | exact ((H1.out.alloc _).alloc _).below hb | exact (((H1.out.alloc _).alloc _).alloc _).below hb | exact H1.out.drew.below hb)
  clear H1; have H1 := H1_; clear H1_
  have OW_ : Hid (OwnB w.heap.size w10 v9 bs) := Lib.hid (by first | exact OW.out.below hb | exact (OW.out.alloc _).below hb | exact ((OW.out.alloc _).alloc _).below hb | exact (((OW.out.alloc _).alloc _).alloc _).below hb | exact OW.out.drew.below hb)
  clear OW; have OW := OW_; clear OW_
  have O3_ : Hid (OwnB w.heap.size w10 v3 (fs)) := Lib.hid (by first | exact O3.out.below hb | exact (O3.out.alloc _).below hb | exact ((O3.out.alloc _).alloc _).below hb | exact (((O3.out.alloc _).alloc _).alloc _).below hb | exact O3.out.drew.below hb)
  clear O3; have O3 := O3_; clear O3_
  have O4_ : Hid (OwnB w.heap.size w10 v4 (fs)) := Lib.hid (by first | exact O4.out.below hb | exact (O4.out.alloc _).below hb | exact ((O4.out.alloc _).alloc _).below hb | exact (((O4.out.alloc _).alloc _).alloc _).below hb | exact O4.out.drew.below hb)
  clear O4; have O4 := O4_; clear O4_
  have O7_ : Hid (OwnB w.heap.size w10 v7 ([])) := Lib.hid (by first | exact O7.out.below hb | exact (O7.out.alloc _).below hb | exact ((O7.out.alloc _).alloc _).below hb | exact (((O7.out.alloc _).alloc _).alloc _).below hb | exact O7.out.drew.below hb)
  clear O7; have O7 := O7_; clear O7_
  have O8_ : Hid (OwnB w.heap.size w10 v8 ([])) := Lib.hid (by first | exact O8.out.below hb | exact (O8.out.alloc _).below hb | exact ((O8.out.alloc _).alloc _).below hb | exact (((O8.out.alloc _).alloc _).alloc _).below hb | exact O8.out.drew.below hb)
  clear O8; have O8 := O8_; clear O8_
  clear hb
  clear hB9 hs9
  go_wp2_with fail
  refine (checkr_is HE H1.out).mono ?_
  rintro e w11 ⟨rfl, hb⟩
  have hB11 : Below w.heap.size w w11 := below_thru (by go_grown) hb
  have hs11 := hB11.size
  have H1_ : Hid (IsB w11 (.slice at0 n cap) bs) := Lib.hid (by first | exact H1.out.below hb | exact (H1.out.alloc _).below hb | exact ((H1.out.alloc _).alloc _).below hb | exact (((H1.out.alloc _).alloc _).alloc _).below hb | exact H1.out.drew.below hb)
  clear H1; have H1 := H1_; clear H1_
  have OW_ : Hid (OwnB w.heap.size w11 v9 bs) := Lib.hid (by first | exact OW.out.below hb | exact (OW.out.alloc _).below hb | exact ((OW.out.alloc _).alloc _).below hb | exact (((OW.out.alloc _).alloc _).alloc _).below hb | exact OW.out.drew.below hb)
  clear OW; have OW := OW_; clear OW_
  have O3_ : Hid (OwnB w.heap.size w11 v3 (fs)) := Lib.hid (by first | exact O3.out.below hb | exact (O3.out.alloc _).below hb | exact ((O3.out.alloc _).alloc _).below hb | exact (((O3.out.alloc _).alloc _).alloc _).below hb | exact O3.out.drew.below hb)
  clear O3; have O3 := O3_; clear O3_
  have O4_ : Hid (OwnB w.heap.size w11 v4 (fs)) := Lib.hid (by first | exact O4.out.below hb | exact (O4.out.alloc _).below hb | exact ((O4.out.alloc _).alloc _).below hb | exact (((O4.out.alloc _).alloc _).alloc _).below hb | exact O4.out.drew.below hb)
  clear O4; have O4 := O4_; clear O4_
  have O7_ : Hid (OwnB w.heap.size w11 v7 ([])) := Lib.hid (by first | exact O7.out.below hb | exact (O7.out.alloc _).below hb | exact ((O7.out.alloc _).alloc _).below hb | exact (((O7.out.alloc _).alloc _).alloc _).below hb | exact O7.out.drew.below hb)
  clear O7; have O7 := O7_; clear O7_
  have O8_ : Hid (OwnB w.heap.size w11 v8 ([])) := Lib.hid (by first | exact O8.out.below hb | exact (O8.out.alloc _).below hb | exact ((O8.out.alloc _).alloc _).below hb | exact (((O8.out.alloc _).alloc _).alloc _).below hb | exact O8.out.drew.below hb)
  clear O8; have O8 := O8_; clear O8_
  clear hb
  clear hB10 hs10
  go_wp2_with fail
  refine (rcheckr_is HE H1.out).mono ?_
  rintro e w12 ⟨rfl, hb⟩
  have hB12 : Below w.heap.size w w12 := below_thru (by go_grown) hb
  have hs12 := hB12.size
  have H1_ : Hid (IsB w12 (.slice at0 n cap) bs) := Lib.hid (by first | exact H1.out.below hb | exact (H1.out.alloc _).below hb | exact ((H1.out.alloc _).alloc _).below hb | exact (((H1.out.alloc _).alloc _).alloc _).below hb | exact H1.out.drew.below hb)
  clear H1; have H1 := H1_; clear H1_
  have OW_ : Hid (OwnB w.heap.size w12 v9 bs) := Lib.hid (by first | exact OW.out.below hb | exact (OW.out.alloc _).below hb | exact ((OW.out.alloc _).alloc _).below hb | exact (((OW.out.alloc _).alloc _).alloc _).below hb | exact OW.out.drew.below hb)
  clear OW; have OW := OW_; clear OW_
  have O3_ : Hid (OwnB w.heap.size w12 v3 (fs)) := Lib.hid (by first | exact O3.out.below hb | exact (O3.out.alloc _).below hb | exact ((O3.out.alloc _).alloc _).below hb | exact (((O3.out.alloc _).alloc _).alloc _).below hb | exact O3.out.drew.below hb)
  clear O3; have O3 := O3_; clear O3_
  have O4_ : Hid (OwnB w.heap.size w12 v4 (fs)) := Lib.hid (by first | exact O4.out.below hb | exact (O4.out.alloc _).below hb | exact ((O4.out.alloc _).alloc _).below hb | exact (((O4.out.alloc _).alloc _).alloc _).below hb | exact O4.out.drew.below hb)
  clear O4; have O4 := O4_; clear O4_
  have O7_ : Hid (OwnB w.heap.size w12 v7 ([])) := Lib.hid (by first | exact O7.out.below hb | exact (O7.out.alloc _).below hb | exact ((O7.out.alloc _).alloc _).below hb | exact (((O7.out.alloc _).alloc _).alloc _).below hb | exact O7.out.drew.below hb)
  clear O7; have O7 := O7_; clear O7_
  have O8_ : Hid (OwnB w.heap.size w12 v8 ([])) := Lib.hid (by first | exact O8.out.below hb | exact (O8.out.alloc _).below hb | exact ((O8.out.alloc _).alloc _).below hb | exact (((O8.out.alloc _).alloc _).alloc _).below hb | exact O8.out.drew.below hb)
  clear O8; have O8 := O8_; clear O8_
  clear hb
  clear hB11 hs11
  go_wp2_with fail
  refine (sameb_tt O3.out.is O4.out.is).mono ?_
  rintro e w13 ⟨rfl, hb⟩
  have hB13 : Below w.heap.size w w13 := below_thru (by go_grown) hb
  have hs13 := hB13.size
  have H1_ : Hid (IsB w13 (.slice at0 n cap) bs) := Lib.hid (by first | exact H1.out.below hb | exact (H1.out.alloc _).below hb | exact ((H1.out.alloc _).alloc _).below hb | exact (((H1.out.alloc _).alloc _).alloc _).below hb | exact H1.out.drew.below hb)
  clear H1; have H1 := H1_; clear H1_
  have OW_ : Hid (OwnB w.heap.size w13 v9 bs) := Lib.hid (by first | exact OW.out.below hb | exact (OW.out.alloc _).below hb | exact ((OW.out.alloc _).alloc _).below hb | exact (((OW.out.alloc _).alloc _).alloc _).below hb | exact OW.out.drew.below hb)
  clear OW; have OW := OW_; clear OW_
  have O3_ : Hid (OwnB w.heap.size w13 v3 (fs)) := Lib.hid (by first | exact O3.out.below hb | exact (O3.out.alloc _).below hb | exact ((O3.out.alloc _).alloc _).below hb | exact (((O3.out.alloc _).alloc _).alloc _).below hb | exact O3.out.drew.below hb)
  clear O3; have O3 := O3_; clear O3_
  have O4_ : Hid (OwnB w.heap.size w13 v4 (fs)) := Lib.hid (by first | exact O4.out.below hb | exact (O4.out.alloc _).below hb | exact ((O4.out.alloc _).alloc _).below hb | exact (((O4.out.alloc _).alloc _).alloc _).below hb | exact O4.out.drew.below hb)
  clear O4; have O4 := O4_; clear O4_
  have O7_ : Hid (OwnB w.heap.size w13 v7 ([])) := Lib.hid (by first | exact O7.out.below hb | exact (O7.out.alloc _).below hb | exact ((O7.out.alloc _).alloc _).below hb | exact (((O7.out.alloc _).alloc _).alloc _).below hb | exact O7.out.drew.below hb)
  clear O7; have O7 := O7_; clear O7_
  have O8_ : Hid (OwnB w.heap.size w13 v8 ([])) := Lib.hid (by first | exact O8.out.below hb | exact (O8.out.alloc _).below hb | exact ((O8.out.alloc _).alloc _).below hb | exact (((O8.out.alloc _).alloc _).alloc _).below hb | exact O8.out.drew.below hb)
  clear O8; have O8 := O8_; clear O8_
  clear hb
  clear hB12 hs12
  go_wp2_with fail
  refine (sameb_tt O7.out.is O8.out.is).mono ?_
  rintro e w14 ⟨rfl, hb⟩
  have hB14 : Below w.heap.size w w14 := below_thru (by go_grown) hb
  have hs14 := hB14.size
  have H1_ : Hid (IsB w14 (.slice at0 n cap) bs) := Lib.hid (by first | exact H1.out.below hb | exact (H1.out.alloc _).below hb | exact ((H1.out.alloc _).alloc _).below hb | exact (((H1.out.alloc _).alloc _).alloc _).below hb | exact H1.out.drew.below hb)
  clear H1; have H1 := H1_; clear H1_
  have OW_ : Hid (OwnB w.heap.size w14 v9 bs) := Lib.hid (by first | exact OW.out.below hb | exact (OW.out.alloc _).below hb | exact ((OW.out.alloc _).alloc _).below hb | exact (((OW.out.alloc _).alloc _).alloc _).below hb | exact OW.out.drew.below hb)
  clear OW; have OW := OW_; clear OW_
  have O3_ : Hid (OwnB w.heap.size w14 v3 (fs)) := Lib.hid (by first | exact O3.out.below hb | exact (O3.out.alloc _).below hb | exact ((O3.out.alloc _).alloc _).below hb | exact (((O3.out.alloc _).alloc _).alloc _).below hb | exact O3.out.drew.below hb)
  clear O3; have O3 := O3_; clear O3_
  have O4_ : Hid (OwnB w.heap.size w14 v4 (fs)) := Lib.hid (by first | exact O4.out.below hb | exact (O4.out.alloc _).below hb | exact ((O4.out.alloc _).alloc _).below hb | exact (((O4.out.alloc _).alloc _).alloc _).below hb | exact O4.out.drew.below hb)
  clear O4; have O4 := O4_; clear O4_
  have O7_ : Hid (OwnB w.heap.size w14 v7 ([])) := Lib.hid (by first | exact O7.out.below hb | exact (O7.out.alloc _).below hb | exact ((O7.out.alloc _).alloc _).below hb | exact (((O7.out.alloc _).alloc _).alloc _).below hb | exact O7.out.drew.below hb)
  clear O7; have O7 := O7_; clear O7_
  have O8_ : Hid (OwnB w.heap.size w14 v8 ([])) := Lib.hid (by first | exact O8.out.below hb | exact (O8.out.alloc _).below hb | exact ((O8.out.alloc _).alloc _).below hb | exact (((O8.out.alloc _).alloc _).alloc _).below hb | exact O8.out.drew.below hb)
  clear O8; have O8 := O8_; clear O8_
  clear hb
  clear hB13 hs13
  go_wp2_with fail
  refine (sameb_tt H1.out OW.out.is).mono ?_
  rintro e w15 ⟨rfl, hb⟩
  have hB15 : Below w.heap.size w w15 := below_thru (by go_grown) hb
  have hs15 := hB15.size
  have H1_ : Hid (IsB w15 (.slice at0 n cap) bs) := Lib.hid (by first | exact H1.out.below hb | exact (H1.out.alloc _).below hb | exact ((H1.out.alloc _).alloc _).below hb | exact (((H1.out.alloc _).alloc _).alloc _).below hb | exact H1.out.drew.below hb)
  clear H1; have H1 := H1_; clear H1_
  have OW_ : Hid (OwnB w.heap.size w15 v9 bs) := Lib.hid (by first | exact OW.out.below hb | exact (OW.out.alloc _).below hb | exact ((OW.out.alloc _).alloc _).below hb | exact (((OW.out.alloc _).alloc _).alloc _).below hb | exact OW.out.drew.below hb)
  clear OW; have OW := OW_; clear OW_
  have O3_ : Hid (OwnB w.heap.size w15 v3 (fs)) := Lib.hid (by first | exact O3.out.below hb | exact (O3.out.alloc _).below hb | exact ((O3.out.alloc _).alloc _).below hb | exact (((O3.out.alloc _).alloc _).alloc _).below hb | exact O3.out.drew.below hb)
  clear O3; have O3 := O3_; clear O3_
  have O4_ : Hid (OwnB w.heap.size w15 v4 (fs)) := Lib.hid (by first | exact O4.out.below hb | exact (O4.out.alloc _).below hb | exact ((O4.out.alloc _).alloc _).below hb | exact (((O4.out.alloc _).alloc _).alloc _).below hb | exact O4.out.drew.below hb)
  clear O4; have O4 := O4_; clear O4_
  have O7_ : Hid (OwnB w.heap.size w15 v7 ([])) := Lib.hid (by first | exact O7.out.below hb | exact (O7.out.alloc _).below hb | exact ((O7.out.alloc _).alloc _).below hb | exact (((O7.out.alloc _).alloc _).alloc _).below hb | exact O7.out.drew.below hb)
  clear O7; have O7 := O7_; clear O7_
  have O8_ : Hid (OwnB w.heap.size w15 v8 ([])) := Lib.hid (by first | exact O8.out.below hb | exact (O8.out.alloc _).below hb | exact ((O8.out.alloc _).alloc _).below hb | exact (((O8.out.alloc _).alloc _).alloc _).below hb | exact O8.out.drew.below hb)
  clear O8; have O8 := O8_; clear O8_
  clear hb
  clear hB14 hs14
  go_wp2_with fail
  go_returns
  exact ⟨rfl, hB15⟩

set_option maxRecDepth 100000 in
set_option maxHeartbeats 12800000 in
theorem takes4_ok {bs : List Bk} {t c : Int} {v : Value} {w : World} (h : bs.length ≤ 20) (hr : Row bs) (ht : isU t) (hc : 0 ≤ c) (hm : c ≤ 9223372036854775807) (h1 : IsB w v bs) :
    Calls Try.prog 5 #[v, .int .u64 t, .int .i64 c] w fun e w' => e = .returned (.bool true) ∧ Below w.heap.size w w' := by
  obtain ⟨fs, ef⟩ : ∃ y, bs.map (Bk.fil t) = y := ⟨_, rfl⟩
  obtain ⟨zs, ez⟩ : ∃ y, takV bs t c = y := ⟨_, rfl⟩
  obtain ⟨x, ex⟩ : ∃ y, takB bs t c = y := ⟨_, rfl⟩
  obtain ⟨y, ey⟩ : ∃ y, holdB c bs = y := ⟨_, rfl⟩
  obtain ⟨u, eu⟩ : ∃ y, wts c bs = y := ⟨_, rfl⟩
  have he := hr.e
  have HE := Lib.hid hr.e
  have EF := Lib.hid ef
  have EZ := Lib.hid ez
  have EX := Lib.hid ex
  have EY := Lib.hid ey
  have EU := Lib.hid eu
  have HR := Lib.hid hr
  clear hr ef ez ex ey eu he
  obtain ⟨n, hn⟩ : ∃ n, bs.length = n := ⟨_, rfl⟩
  obtain ⟨at0, cap, rfl, hb⟩ := h1
  have hb := hb
  have i1 := hb.room
  have i2 := hb.most
  have HB := Lib.hid hb
  rw [hn] at i1
  have h1 : IsB w (.slice at0 bs.length cap) bs := ⟨at0, cap, rfl, hb⟩
  rw [hn] at h1 ⊢
  have H1 := Lib.hid h1
  have HL := Lib.hid hn
  have hg := Lib.hid (show decide (20 < (bs.length : Int)) = false from decide_eq_false (by omega))
  have hn20 : n ≤ 20 := by omega
  clear hb h1 hn h
  obtain ⟨ti, hin, hz0, hz1, hz2⟩ := info_parts info_bucket
  go_enter Try.func5, Try.ntmps5
  go_wp2_with fail
  refine (great_is hg H1.out).mono ?_
  rintro e w1 ⟨rfl, hb⟩
  have hB1 : Below w.heap.size w w1 := below_thru (by go_grown) hb
  have hs1 := hB1.size
  have H1_ : Hid (IsB w1 (.slice at0 n cap) bs) := Lib.hid (by first | exact H1.out.below hb | exact (H1.out.alloc _).below hb | exact ((H1.out.alloc _).alloc _).below hb | exact (((H1.out.alloc _).alloc _).alloc _).below hb | exact H1.out.drew.below hb)
  clear H1; have H1 := H1_; clear H1_
  clear hb
  have B1 := Lib.hid (HB.out.below hB1)
  go_wp2_with (at_builtin; refine wpList_append_row (by rfl) _ _ 39 (by rfl) w.heap.size 26 ti _ 48 Try.underlying39 hin hz0 hz1 hz2 rfl _ 0 [] (by rfl) (own_empty hs1) at0 cap n bs HL.out (by rfl) (B1.out.alloc _) (by unfold maxLen; omega) (by omega) (by simp; omega) ?_; intro v9 w9 hown9 hgrow)
  have hB2 := (hB1.alloc hs1 (.cells #[] 26)).grown hgrow (by simp; omega) (own_blocks (own_empty (e := 26) hs1))
  have hs2 := hB2.size
  have OW : Hid (OwnB w.heap.size w9 v9 bs) := Lib.hid (by
    unfold OwnB
    rw [HL.out]
    simpa using hown9)
  have H9 := Lib.hid (IsB.ofN (HB.out.below hB2) HL.out)
  clear H1; have H1 := H9; clear H9
  clear hown9 hgrow B1 hB1 hs1
  go_wp2_with fail
  refine (lrefill_is HR.out ht EF H1.out).mono ?_
  rintro e w3 ⟨v3, rfl, ho, hb⟩
  have hB3 : Below w.heap.size w w3 := below_thru (by go_grown) hb
  have hs3 := hB3.size
  have H1_ : Hid (IsB w3 (.slice at0 n cap) bs) := Lib.hid (by first | exact H1.out.below hb | exact (H1.out.alloc _).below hb | exact ((H1.out.alloc _).alloc _).below hb | exact (((H1.out.alloc _).alloc _).alloc _).below hb | exact H1.out.drew.below hb)
  clear H1; have H1 := H1_; clear H1_
  have OW_ : Hid (OwnB w.heap.size w3 v9 bs) := Lib.hid (by first | exact OW.out.below hb | exact (OW.out.alloc _).below hb | exact ((OW.out.alloc _).alloc _).below hb | exact (((OW.out.alloc _).alloc _).alloc _).below hb | exact OW.out.drew.below hb)
  clear OW; have OW := OW_; clear OW_
  have O3 : Hid (OwnB w.heap.size w3 v3 (fs)) := Lib.hid (ho.base (by first | omega | (simp; omega)))
  clear ho
  clear hb
  clear hB2 hs2
  go_wp2_with fail
  refine (rrefillr_ok HR.out ht EF H1.out).mono ?_
  rintro e w4 ⟨v4, rfl, ho, hb⟩
  have hB4 : Below w.heap.size w w4 := below_thru (by go_grown) hb
  have hs4 := hB4.size
  have H1_ : Hid (IsB w4 (.slice at0 n cap) bs) := Lib.hid (by first | exact H1.out.below hb | exact (H1.out.alloc _).below hb | exact ((H1.out.alloc _).alloc _).below hb | exact (((H1.out.alloc _).alloc _).alloc _).below hb | exact H1.out.drew.below hb)
  clear H1; have H1 := H1_; clear H1_
  have OW_ : Hid (OwnB w.heap.size w4 v9 bs) := Lib.hid (by first | exact OW.out.below hb | exact (OW.out.alloc _).below hb | exact ((OW.out.alloc _).alloc _).below hb | exact (((OW.out.alloc _).alloc _).alloc _).below hb | exact OW.out.drew.below hb)
  clear OW; have OW := OW_; clear OW_
  have O3_ : Hid (OwnB w.heap.size w4 v3 (fs)) := Lib.hid (by first | exact O3.out.below hb | exact (O3.out.alloc _).below hb | exact ((O3.out.alloc _).alloc _).below hb | exact (((O3.out.alloc _).alloc _).alloc _).below hb | exact O3.out.drew.below hb)
  clear O3; have O3 := O3_; clear O3_
  have O4 : Hid (OwnB w.heap.size w4 v4 (fs)) := Lib.hid (ho.base (by first | omega | (simp; omega)))
  clear ho
  clear hb
  clear hB3 hs3
  go_wp2_with fail
  refine (lhold_ok HE.out hc EY H1.out).mono ?_
  rintro e w5 ⟨rfl, hb⟩
  have hB5 : Below w.heap.size w w5 := below_thru (by go_grown) hb
  have hs5 := hB5.size
  have H1_ : Hid (IsB w5 (.slice at0 n cap) bs) := Lib.hid (by first | exact H1.out.below hb | exact (H1.out.alloc _).below hb | exact ((H1.out.alloc _).alloc _).below hb | exact (((H1.out.alloc _).alloc _).alloc _).below hb | exact H1.out.drew.below hb)
  clear H1; have H1 := H1_; clear H1_
  have OW_ : Hid (OwnB w.heap.size w5 v9 bs) := Lib.hid (by first | exact OW.out.below hb | exact (OW.out.alloc _).below hb | exact ((OW.out.alloc _).alloc _).below hb | exact (((OW.out.alloc _).alloc _).alloc _).below hb | exact OW.out.drew.below hb)
  clear OW; have OW := OW_; clear OW_
  have O3_ : Hid (OwnB w.heap.size w5 v3 (fs)) := Lib.hid (by first | exact O3.out.below hb | exact (O3.out.alloc _).below hb | exact ((O3.out.alloc _).alloc _).below hb | exact (((O3.out.alloc _).alloc _).alloc _).below hb | exact O3.out.drew.below hb)
  clear O3; have O3 := O3_; clear O3_
  have O4_ : Hid (OwnB w.heap.size w5 v4 (fs)) := Lib.hid (by first | exact O4.out.below hb | exact (O4.out.alloc _).below hb | exact ((O4.out.alloc _).alloc _).below hb | exact (((O4.out.alloc _).alloc _).alloc _).below hb | exact O4.out.drew.below hb)
  clear O4; have O4 := O4_; clear O4_
  clear hb
  clear hB4 hs4
  go_wp2_with fail
  refine (rholdr_ok HE.out hc hm EY H1.out).mono ?_
  rintro e w6 ⟨rfl, hb⟩
  have hB6 : Below w.heap.size w w6 := below_thru (by go_grown) hb
  have hs6 := hB6.size
  have H1_ : Hid (IsB w6 (.slice at0 n cap) bs) := Lib.hid (by first | exact H1.out.below hb | exact (H1.out.alloc _).below hb | exact ((H1.out.alloc _).alloc _).below hb | exact (((H1.out.alloc _).alloc _).alloc _).below hb | exact H1.out.drew.below hb)
  clear H1; have H1 := H1_; clear H1_
  have OW_ : Hid (OwnB w.heap.size w6 v9 bs) := Lib.hid (by first | exact OW.out.below hb | exact (OW.out.alloc _).below hb | exact ((OW.out.alloc _).alloc _).below hb | exact (((OW.out.alloc _).alloc _).alloc _).below hb | exact OW.out.drew.below hb)
  clear OW; have OW := OW_; clear OW_
  have O3_ : Hid (OwnB w.heap.size w6 v3 (fs)) := Lib.hid (by first | exact O3.out.below hb | exact (O3.out.alloc _).below hb | exact ((O3.out.alloc _).alloc _).below hb | exact (((O3.out.alloc _).alloc _).alloc _).below hb | exact O3.out.drew.below hb)
  clear O3; have O3 := O3_; clear O3_
  have O4_ : Hid (OwnB w.heap.size w6 v4 (fs)) := Lib.hid (by first | exact O4.out.below hb | exact (O4.out.alloc _).below hb | exact ((O4.out.alloc _).alloc _).below hb | exact (((O4.out.alloc _).alloc _).alloc _).below hb | exact O4.out.drew.below hb)
  clear O4; have O4 := O4_; clear O4_
  clear hb
  clear hB5 hs5
  go_wp2_with fail
  refine (ltake_ok HR.out ht hc EZ EX H1.out).mono ?_
  rintro e w7 ⟨v7, rfl, ho, hb⟩
  have hB7 : Below w.heap.size w w7 := below_thru (by go_grown) hb
  have hs7 := hB7.size
  have H1_ : Hid (IsB w7 (.slice at0 n cap) bs) := Lib.hid (by first | exact H1.out.below hb | exact (H1.out.alloc _).below hb | exact ((H1.out.alloc _).alloc _).below hb | exact (((H1.out.alloc _).alloc _).alloc _).below hb | exact H1.out.drew.below hb)
  clear H1; have H1 := H1_; clear H1_
  have OW_ : Hid (OwnB w.heap.size w7 v9 bs) := Lib.hid (by first | exact OW.out.below hb | exact (OW.out.alloc _).below hb | exact ((OW.out.alloc _).alloc _).below hb | exact (((OW.out.alloc _).alloc _).alloc _).below hb | exact OW.out.drew.below hb)
  clear OW; have OW := OW_; clear OW_
  have O3_ : Hid (OwnB w.heap.size w7 v3 (fs)) := Lib.hid (by first | exact O3.out.below hb | exact (O3.out.alloc _).below hb | exact ((O3.out.alloc _).alloc _).below hb | exact (((O3.out.alloc _).alloc _).alloc _).below hb | exact O3.out.drew.below hb)
  clear O3; have O3 := O3_; clear O3_
  have O4_ : Hid (OwnB w.heap.size w7 v4 (fs)) := Lib.hid (by first | exact O4.out.below hb | exact (O4.out.alloc _).below hb | exact ((O4.out.alloc _).alloc _).below hb | exact (((O4.out.alloc _).alloc _).alloc _).below hb | exact O4.out.drew.below hb)
  clear O4; have O4 := O4_; clear O4_
  have O7 : Hid (OwnB w.heap.size w7 v7 (zs)) := Lib.hid (ho.base (by first | omega | (simp; omega)))
  clear ho
  clear hb
  clear hB6 hs6
  go_wp2_with fail
  refine (rtaker_ok HR.out ht hc hm EZ EX H1.out).mono ?_
  rintro e w8 ⟨v8, rfl, ho, hb⟩
  have hB8 : Below w.heap.size w w8 := below_thru (by go_grown) hb
  have hs8 := hB8.size
  have H1_ : Hid (IsB w8 (.slice at0 n cap) bs) := Lib.hid (by first | exact H1.out.below hb | exact (H1.out.alloc _).below hb | exact ((H1.out.alloc _).alloc _).below hb | exact (((H1.out.alloc _).alloc _).alloc _).below hb | exact H1.out.drew.below hb)
  clear H1; have H1 := H1_; clear H1_
  have OW_ : Hid (OwnB w.heap.size w8 v9 bs) := Lib.hid (by first | exact OW.out.below hb | exact (OW.out.alloc _).below hb | exact ((OW.out.alloc _).alloc _).below hb | exact (((OW.out.alloc _).alloc _).alloc _).below hb | exact OW.out.drew.below hb)
  clear OW; have OW := OW_; clear OW_
  have O3_ : Hid (OwnB w.heap.size w8 v3 (fs)) := Lib.hid (by first | exact O3.out.below hb | exact (O3.out.alloc _).below hb | exact ((O3.out.alloc _).alloc _).below hb | exact (((O3.out.alloc _).alloc _).alloc _).below hb | exact O3.out.drew.below hb)
  clear O3; have O3 := O3_; clear O3_
  have O4_ : Hid (OwnB w.heap.size w8 v4 (fs)) := Lib.hid (by first | exact O4.out.below hb | exact (O4.out.alloc _).below hb | exact ((O4.out.alloc _).alloc _).below hb | exact (((O4.out.alloc _).alloc _).alloc _).below hb | exact O4.out.drew.below hb)
  clear O4; have O4 := O4_; clear O4_
  have O7_ : Hid (OwnB w.heap.size w8 v7 (zs)) := Lib.hid (by first | exact O7.out.below hb | exact (O7.out.alloc _).below hb | exact ((O7.out.alloc _).alloc _).below hb | exact (((O7.out.alloc _).alloc _).alloc _).below hb | exact O7.out.drew.below hb)
  clear O7; have O7 := O7_; clear O7_
  have O8 : Hid (OwnB w.heap.size w8 v8 (zs)) := Lib.hid (ho.base (by first | omega | (simp; omega)))
  clear ho
  clear hb
  clear hB7 hs7
  go_wp2_with fail
  refine (lwait_ok HR.out hc EU H1.out).mono ?_
  rintro e w9 ⟨rfl, hb⟩
  have hB9 : Below w.heap.size w w9 := below_thru (by go_grown) hb
  have hs9 := hB9.size
  have H1_ : Hid (IsB w9 (.slice at0 n cap) bs) := Lib.hid (by first | exact H1.out.below hb | exact (H1.out.alloc _).below hb | exact ((H1.out.alloc _).alloc _).below hb | exact (((H1.out.alloc _).alloc _).alloc _).below hb | exact H1.out.drew.below hb)
  clear H1; have H1 := H1_; clear H1_
  have OW_ : Hid (OwnB w.heap.size w9 v9 bs) := Lib.hid (by first | exact OW.out.below hb | exact (OW.out.alloc _).below hb | exact ((OW.out.alloc _).alloc _).below hb | exact (((OW.out.alloc _).alloc _).alloc _).below hb | exact OW.out.drew.below hb)
  clear OW; have OW := OW_; clear OW_
  have O3_ : Hid (OwnB w.heap.size w9 v3 (fs)) := Lib.hid (by first | exact O3.out.below hb | exact (O3.out.alloc _).below hb | exact ((O3.out.alloc _).alloc _).below hb | exact (((O3.out.alloc _).alloc _).alloc _).below hb | exact O3.out.drew.below hb)
  clear O3; have O3 := O3_; clear O3_
  have O4_ : Hid (OwnB w.heap.size w9 v4 (fs)) := Lib.hid (by first | exact O4.out.below hb | exact (O4.out.alloc _).below hb | exact ((O4.out.alloc _).alloc _).below hb | exact (((O4.out.alloc _).alloc _).alloc _).below hb | exact O4.out.drew.below hb)
  clear O4; have O4 := O4_; clear O4_
  have O7_ : Hid (OwnB w.heap.size w9 v7 (zs)) := Lib.hid (by first | exact O7.out.below hb | exact (O7.out.alloc _).below hb | exact ((O7.out.alloc _).alloc _).below hb | exact (((O7.out.alloc _).alloc _).alloc _).below hb | exact O7.out.drew.below hb)
  clear O7; have O7 := O7_; clear O7_
  have O8_ : Hid (OwnB w.heap.size w9 v8 (zs)) := Lib.hid (by first | exact O8.out.below hb | exact (O8.out.alloc _).below hb | exact ((O8.out.alloc _).alloc _).below hb | exact (((O8.out.alloc _).alloc _).alloc _).below hb | exact O8.out.drew.below hb)
  clear O8; have O8 := O8_; clear O8_
  clear hb
  clear hB8 hs8
  go_wp2_with fail
  refine (rwaitr_ok HR.out hc EU H1.out).mono ?_
  rintro e w10 ⟨rfl, hb⟩
  have hB10 : Below w.heap.size w w10 := below_thru (by go_grown) hb
  have hs10 := hB10.size
  have H1_ : Hid (IsB w10 (.slice at0 n cap) bs) := Lib.hid (by first | exact H1.out.below hb | exact (H1.out.alloc _).below hb | exact ((H1.out.alloc _).alloc _).below hb | exact (((H1.out.alloc _).alloc _).alloc _).below hb | exact H1.out.drew.below hb)
  clear H1; have H1 := H1_; clear H1_
  have OW_ : Hid (OwnB w.heap.size w10 v9 bs) := Lib.hid (by first | exact OW.out.below hb | exact (OW.out.alloc _).below hb | exact ((OW.out.alloc _).alloc _).below hb | exact (((OW.out.alloc _).alloc _).alloc _).below hb | exact OW.out.drew.below hb)
  clear OW; have OW := OW_; clear OW_
  have O3_ : Hid (OwnB w.heap.size w10 v3 (fs)) := Lib.hid (by first | exact O3.out.below hb | exact (O3.out.alloc _).below hb | exact ((O3.out.alloc _).alloc _).below hb | exact (((O3.out.alloc _).alloc _).alloc _).below hb | exact O3.out.drew.below hb)
  clear O3; have O3 := O3_; clear O3_
  have O4_ : Hid (OwnB w.heap.size w10 v4 (fs)) := Lib.hid (by first | exact O4.out.below hb | exact (O4.out.alloc _).below hb | exact ((O4.out.alloc _).alloc _).below hb | exact (((O4.out.alloc _).alloc _).alloc _).below hb | exact O4.out.drew.below hb)
  clear O4; have O4 := O4_; clear O4_
  have O7_ : Hid (OwnB w.heap.size w10 v7 (zs)) := Lib.hid (by first | exact O7.out.below hb | exact (O7.out.alloc _).below hb | exact ((O7.out.alloc _).alloc _).below hb | exact (((O7.out.alloc _).alloc _).alloc _).below hb | exact O7.out.drew.below hb)
  clear O7; have O7 := O7_; clear O7_
  have O8_ : Hid (OwnB w.heap.size w10 v8 (zs)) := Lib.hid (by first | exact O8.out.below hb | exact (O8.out.alloc _).below hb | exact ((O8.out.alloc _).alloc _).below hb | exact (((O8.out.alloc _).alloc _).alloc _).below hb | exact O8.out.drew.below hb)
  clear O8; have O8 := O8_; clear O8_
  clear hb
  clear hB9 hs9
  go_wp2_with fail
  refine (checkr_is HE H1.out).mono ?_
  rintro e w11 ⟨rfl, hb⟩
  have hB11 : Below w.heap.size w w11 := below_thru (by go_grown) hb
  have hs11 := hB11.size
  have H1_ : Hid (IsB w11 (.slice at0 n cap) bs) := Lib.hid (by first | exact H1.out.below hb | exact (H1.out.alloc _).below hb | exact ((H1.out.alloc _).alloc _).below hb | exact (((H1.out.alloc _).alloc _).alloc _).below hb | exact H1.out.drew.below hb)
  clear H1; have H1 := H1_; clear H1_
  have OW_ : Hid (OwnB w.heap.size w11 v9 bs) := Lib.hid (by first | exact OW.out.below hb | exact (OW.out.alloc _).below hb | exact ((OW.out.alloc _).alloc _).below hb | exact (((OW.out.alloc _).alloc _).alloc _).below hb | exact OW.out.drew.below hb)
  clear OW; have OW := OW_; clear OW_
  have O3_ : Hid (OwnB w.heap.size w11 v3 (fs)) := Lib.hid (by first | exact O3.out.below hb | exact (O3.out.alloc _).below hb | exact ((O3.out.alloc _).alloc _).below hb | exact (((O3.out.alloc _).alloc _).alloc _).below hb | exact O3.out.drew.below hb)
  clear O3; have O3 := O3_; clear O3_
  have O4_ : Hid (OwnB w.heap.size w11 v4 (fs)) := Lib.hid (by first | exact O4.out.below hb | exact (O4.out.alloc _).below hb | exact ((O4.out.alloc _).alloc _).below hb | exact (((O4.out.alloc _).alloc _).alloc _).below hb | exact O4.out.drew.below hb)
  clear O4; have O4 := O4_; clear O4_
  have O7_ : Hid (OwnB w.heap.size w11 v7 (zs)) := Lib.hid (by first | exact O7.out.below hb | exact (O7.out.alloc _).below hb | exact ((O7.out.alloc _).alloc _).below hb | exact (((O7.out.alloc _).alloc _).alloc _).below hb | exact O7.out.drew.below hb)
  clear O7; have O7 := O7_; clear O7_
  have O8_ : Hid (OwnB w.heap.size w11 v8 (zs)) := Lib.hid (by first | exact O8.out.below hb | exact (O8.out.alloc _).below hb | exact ((O8.out.alloc _).alloc _).below hb | exact (((O8.out.alloc _).alloc _).alloc _).below hb | exact O8.out.drew.below hb)
  clear O8; have O8 := O8_; clear O8_
  clear hb
  clear hB10 hs10
  go_wp2_with fail
  refine (rcheckr_is HE H1.out).mono ?_
  rintro e w12 ⟨rfl, hb⟩
  have hB12 : Below w.heap.size w w12 := below_thru (by go_grown) hb
  have hs12 := hB12.size
  have H1_ : Hid (IsB w12 (.slice at0 n cap) bs) := Lib.hid (by first | exact H1.out.below hb | exact (H1.out.alloc _).below hb | exact ((H1.out.alloc _).alloc _).below hb | exact (((H1.out.alloc _).alloc _).alloc _).below hb | exact H1.out.drew.below hb)
  clear H1; have H1 := H1_; clear H1_
  have OW_ : Hid (OwnB w.heap.size w12 v9 bs) := Lib.hid (by first | exact OW.out.below hb | exact (OW.out.alloc _).below hb | exact ((OW.out.alloc _).alloc _).below hb | exact (((OW.out.alloc _).alloc _).alloc _).below hb | exact OW.out.drew.below hb)
  clear OW; have OW := OW_; clear OW_
  have O3_ : Hid (OwnB w.heap.size w12 v3 (fs)) := Lib.hid (by first | exact O3.out.below hb | exact (O3.out.alloc _).below hb | exact ((O3.out.alloc _).alloc _).below hb | exact (((O3.out.alloc _).alloc _).alloc _).below hb | exact O3.out.drew.below hb)
  clear O3; have O3 := O3_; clear O3_
  have O4_ : Hid (OwnB w.heap.size w12 v4 (fs)) := Lib.hid (by first | exact O4.out.below hb | exact (O4.out.alloc _).below hb | exact ((O4.out.alloc _).alloc _).below hb | exact (((O4.out.alloc _).alloc _).alloc _).below hb | exact O4.out.drew.below hb)
  clear O4; have O4 := O4_; clear O4_
  have O7_ : Hid (OwnB w.heap.size w12 v7 (zs)) := Lib.hid (by first | exact O7.out.below hb | exact (O7.out.alloc _).below hb | exact ((O7.out.alloc _).alloc _).below hb | exact (((O7.out.alloc _).alloc _).alloc _).below hb | exact O7.out.drew.below hb)
  clear O7; have O7 := O7_; clear O7_
  have O8_ : Hid (OwnB w.heap.size w12 v8 (zs)) := Lib.hid (by first | exact O8.out.below hb | exact (O8.out.alloc _).below hb | exact ((O8.out.alloc _).alloc _).below hb | exact (((O8.out.alloc _).alloc _).alloc _).below hb | exact O8.out.drew.below hb)
  clear O8; have O8 := O8_; clear O8_
  clear hb
  clear hB11 hs11
  go_wp2_with fail
  refine (sameb_tt O3.out.is O4.out.is).mono ?_
  rintro e w13 ⟨rfl, hb⟩
  have hB13 : Below w.heap.size w w13 := below_thru (by go_grown) hb
  have hs13 := hB13.size
  have H1_ : Hid (IsB w13 (.slice at0 n cap) bs) := Lib.hid (by first | exact H1.out.below hb | exact (H1.out.alloc _).below hb | exact ((H1.out.alloc _).alloc _).below hb | exact (((H1.out.alloc _).alloc _).alloc _).below hb | exact H1.out.drew.below hb)
  clear H1; have H1 := H1_; clear H1_
  have OW_ : Hid (OwnB w.heap.size w13 v9 bs) := Lib.hid (by first | exact OW.out.below hb | exact (OW.out.alloc _).below hb | exact ((OW.out.alloc _).alloc _).below hb | exact (((OW.out.alloc _).alloc _).alloc _).below hb | exact OW.out.drew.below hb)
  clear OW; have OW := OW_; clear OW_
  have O3_ : Hid (OwnB w.heap.size w13 v3 (fs)) := Lib.hid (by first | exact O3.out.below hb | exact (O3.out.alloc _).below hb | exact ((O3.out.alloc _).alloc _).below hb | exact (((O3.out.alloc _).alloc _).alloc _).below hb | exact O3.out.drew.below hb)
  clear O3; have O3 := O3_; clear O3_
  have O4_ : Hid (OwnB w.heap.size w13 v4 (fs)) := Lib.hid (by first | exact O4.out.below hb | exact (O4.out.alloc _).below hb | exact ((O4.out.alloc _).alloc _).below hb | exact (((O4.out.alloc _).alloc _).alloc _).below hb | exact O4.out.drew.below hb)
  clear O4; have O4 := O4_; clear O4_
  have O7_ : Hid (OwnB w.heap.size w13 v7 (zs)) := Lib.hid (by first | exact O7.out.below hb | exact (O7.out.alloc _).below hb | exact ((O7.out.alloc _).alloc _).below hb | exact (((O7.out.alloc _).alloc _).alloc _).below hb | exact O7.out.drew.below hb)
  clear O7; have O7 := O7_; clear O7_
  have O8_ : Hid (OwnB w.heap.size w13 v8 (zs)) := Lib.hid (by first | exact O8.out.below hb | exact (O8.out.alloc _).below hb | exact ((O8.out.alloc _).alloc _).below hb | exact (((O8.out.alloc _).alloc _).alloc _).below hb | exact O8.out.drew.below hb)
  clear O8; have O8 := O8_; clear O8_
  clear hb
  clear hB12 hs12
  go_wp2_with fail
  refine (sameb_tt O7.out.is O8.out.is).mono ?_
  rintro e w14 ⟨rfl, hb⟩
  have hB14 : Below w.heap.size w w14 := below_thru (by go_grown) hb
  have hs14 := hB14.size
  have H1_ : Hid (IsB w14 (.slice at0 n cap) bs) := Lib.hid (by first | exact H1.out.below hb | exact (H1.out.alloc _).below hb | exact ((H1.out.alloc _).alloc _).below hb | exact (((H1.out.alloc _).alloc _).alloc _).below hb | exact H1.out.drew.below hb)
  clear H1; have H1 := H1_; clear H1_
  have OW_ : Hid (OwnB w.heap.size w14 v9 bs) := Lib.hid (by first | exact OW.out.below hb | exact (OW.out.alloc _).below hb | exact ((OW.out.alloc _).alloc _).below hb | exact (((OW.out.alloc _).alloc _).alloc _).below hb | exact OW.out.drew.below hb)
  clear OW; have OW := OW_; clear OW_
  have O3_ : Hid (OwnB w.heap.size w14 v3 (fs)) := Lib.hid (by first | exact O3.out.below hb | exact (O3.out.alloc _).below hb | exact ((O3.out.alloc _).alloc _).below hb | exact (((O3.out.alloc _).alloc _).alloc _).below hb | exact O3.out.drew.below hb)
  clear O3; have O3 := O3_; clear O3_
  have O4_ : Hid (OwnB w.heap.size w14 v4 (fs)) := Lib.hid (by first | exact O4.out.below hb | exact (O4.out.alloc _).below hb | exact ((O4.out.alloc _).alloc _).below hb | exact (((O4.out.alloc _).alloc _).alloc _).below hb | exact O4.out.drew.below hb)
  clear O4; have O4 := O4_; clear O4_
  have O7_ : Hid (OwnB w.heap.size w14 v7 (zs)) := Lib.hid (by first | exact O7.out.below hb | exact (O7.out.alloc _).below hb | exact ((O7.out.alloc _).alloc _).below hb | exact (((O7.out.alloc _).alloc _).alloc _).below hb | exact O7.out.drew.below hb)
  clear O7; have O7 := O7_; clear O7_
  have O8_ : Hid (OwnB w.heap.size w14 v8 (zs)) := Lib.hid (by first | exact O8.out.below hb | exact (O8.out.alloc _).below hb | exact ((O8.out.alloc _).alloc _).below hb | exact (((O8.out.alloc _).alloc _).alloc _).below hb | exact O8.out.drew.below hb)
  clear O8; have O8 := O8_; clear O8_
  clear hb
  clear hB13 hs13
  go_wp2_with fail
  refine (sameb_tt H1.out OW.out.is).mono ?_
  rintro e w15 ⟨rfl, hb⟩
  have hB15 : Below w.heap.size w w15 := below_thru (by go_grown) hb
  have hs15 := hB15.size
  have H1_ : Hid (IsB w15 (.slice at0 n cap) bs) := Lib.hid (by first | exact H1.out.below hb | exact (H1.out.alloc _).below hb | exact ((H1.out.alloc _).alloc _).below hb | exact (((H1.out.alloc _).alloc _).alloc _).below hb | exact H1.out.drew.below hb)
  clear H1; have H1 := H1_; clear H1_
  have OW_ : Hid (OwnB w.heap.size w15 v9 bs) := Lib.hid (by first | exact OW.out.below hb | exact (OW.out.alloc _).below hb | exact ((OW.out.alloc _).alloc _).below hb | exact (((OW.out.alloc _).alloc _).alloc _).below hb | exact OW.out.drew.below hb)
  clear OW; have OW := OW_; clear OW_
  have O3_ : Hid (OwnB w.heap.size w15 v3 (fs)) := Lib.hid (by first | exact O3.out.below hb | exact (O3.out.alloc _).below hb | exact ((O3.out.alloc _).alloc _).below hb | exact (((O3.out.alloc _).alloc _).alloc _).below hb | exact O3.out.drew.below hb)
  clear O3; have O3 := O3_; clear O3_
  have O4_ : Hid (OwnB w.heap.size w15 v4 (fs)) := Lib.hid (by first | exact O4.out.below hb | exact (O4.out.alloc _).below hb | exact ((O4.out.alloc _).alloc _).below hb | exact (((O4.out.alloc _).alloc _).alloc _).below hb | exact O4.out.drew.below hb)
  clear O4; have O4 := O4_; clear O4_
  have O7_ : Hid (OwnB w.heap.size w15 v7 (zs)) := Lib.hid (by first | exact O7.out.below hb | exact (O7.out.alloc _).below hb | exact ((O7.out.alloc _).alloc _).below hb | exact (((O7.out.alloc _).alloc _).alloc _).below hb | exact O7.out.drew.below hb)
  clear O7; have O7 := O7_; clear O7_
  have O8_ : Hid (OwnB w.heap.size w15 v8 (zs)) := Lib.hid (by first | exact O8.out.below hb | exact (O8.out.alloc _).below hb | exact ((O8.out.alloc _).alloc _).below hb | exact (((O8.out.alloc _).alloc _).alloc _).below hb | exact O8.out.drew.below hb)
  clear O8; have O8 := O8_; clear O8_
  clear hb
  clear hB14 hs14
  go_wp2_with fail
  go_returns
  exact ⟨rfl, hB15⟩

theorem takes4_any {bs : List Bk} {t c : Int} {v : Value} {w : World} (h1 : IsB w v bs) (hu : ∀ b ∈ bs, isU b.a) (ht : isU t) (hc : tickI c) :
    Calls Try.prog 5 #[v, .int .u64 t, .int .i64 c] w fun e w' => e = .returned (.bool true) ∧ Below w.heap.size w w' := by
  rcases Nat.lt_or_ge 20 bs.length with q | q
  · exact takes4_great q h1
  · by_cases h : rowE bs = 0
    · rcases Int.lt_or_le c 0 with z | z
      · exact takes4_arg q (Row.of h hu) ht z h1
      · exact takes4_ok q (Row.of h hu) ht z hc.2 h1
    · exact takes4_bad q h h1

end Go.Proofs.Ytmpcpflpcfanjaa
