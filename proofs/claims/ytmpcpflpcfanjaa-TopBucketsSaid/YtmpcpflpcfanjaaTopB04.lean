/-
  The wait of a row, as TopBuckets asks for it.
-/
import Derived.Test.YtmpcpflpcfanjaaTopA04
namespace Go.Proofs.Ytmpcpflpcfanjaa
open Go.RowKit

theorem ltake2_is {bs zs : List Bk} {t : Int} {x : Bool} {v : Value} {w : World} (hr : Row bs) (ht : isU t) (hv : Hid (takV bs t 2 = zs)) (hx : Hid (takB bs t 2 = x)) (h1 : IsB w v bs) :
    Calls Try.prog 20 #[v, .int .u64 t, .int .i64 2] w (GivesRBE zs x 0 w) := ltake_ok hr ht (by omega) hv hx h1

set_option maxRecDepth 100000 in
set_option maxHeartbeats 6400000 in
theorem waited_never {bs : List Bk} {now : Int} {v : Value} {w : World} {q r : Int} (hr : Row bs) (tn : isU now) (en : wts 2 bs = 18446744073709551615) (HH : Hid (holdB 2 (bs.map (Bk.fil 18446744073709551615)) = false)) (HA : Hid (afterV now 18446744073709551615 = q)) (HE : Hid (afterE now 18446744073709551615 = r)) (h1 : IsB w v bs) :
    Calls Try.prog 43 #[v, .int .u64 now] w fun e w' => e = .returned (.bool true) ∧ Below w.heap.size w w' := by
  have HR := Lib.hid hr
  have H1 := Lib.hid h1
  have EN := Lib.hid en
  clear hr h1 en
  have tU : isU 18446744073709551615 := by unfold isU; omega
  go_enter Try.func43, Try.ntmps43
  go_wp2_with fail
  refine (lwait_ok HR.out (by omega) EN H1.out).mono ?_
  rintro e w1 ⟨rfl, hb⟩
  have hB1 : Below w.heap.size w w1 := below_thru (by go_grown) hb
  have hs1 := hB1.size
  have H1_ : Hid (IsB w1 v bs) := Lib.hid (by first | exact H1.out.below hb | exact (H1.out.alloc _).below hb | exact ((H1.out.alloc _).alloc _).below hb | exact (((H1.out.alloc _).alloc _).alloc _).below hb | exact H1.out.drew.below hb)
  clear H1; have H1 := H1_; clear H1_
  clear hb
  go_wp2_with fail
  refine (after_is HA HE tn tU).mono ?_
  rintro e w2 ⟨rfl, hb⟩
  have hB2 : Below w.heap.size w w2 := below_thru (by go_grown) hb
  have hs2 := hB2.size
  have H1_ : Hid (IsB w2 v bs) := Lib.hid (by first | exact H1.out.below hb | exact (H1.out.alloc _).below hb | exact ((H1.out.alloc _).alloc _).below hb | exact (((H1.out.alloc _).alloc _).alloc _).below hb | exact H1.out.drew.below hb)
  clear H1; have H1 := H1_; clear H1_
  clear hb
  clear hB1 hs1
  go_wp2_with fail
  refine (lrefill_ok HR.out tU H1.out).mono ?_
  rintro e w3 ⟨v3, rfl, ho, hb⟩
  have hB3 : Below w.heap.size w w3 := below_thru (by go_grown) hb
  have hs3 := hB3.size
  have H1_ : Hid (IsB w3 v bs) := Lib.hid (by first | exact H1.out.below hb | exact (H1.out.alloc _).below hb | exact ((H1.out.alloc _).alloc _).below hb | exact (((H1.out.alloc _).alloc _).alloc _).below hb | exact H1.out.drew.below hb)
  clear H1; have H1 := H1_; clear H1_
  have O3 : Hid (OwnB w.heap.size w3 v3 (bs.map (Bk.fil 18446744073709551615))) := Lib.hid (ho.base (by first | omega | (simp; omega)))
  clear ho
  clear hb
  clear hB2 hs2
  go_wp2_with fail
  refine (lhold_ok (HR.out.fil tU).e (by omega) HH O3.out.is).mono ?_
  rintro e w4 ⟨rfl, hb⟩
  have hB4 : Below w.heap.size w w4 := below_thru (by go_grown) hb
  have hs4 := hB4.size
  have H1_ : Hid (IsB w4 v bs) := Lib.hid (by first | exact H1.out.below hb | exact (H1.out.alloc _).below hb | exact ((H1.out.alloc _).alloc _).below hb | exact (((H1.out.alloc _).alloc _).alloc _).below hb | exact H1.out.drew.below hb)
  clear H1; have H1 := H1_; clear H1_
  have O3_ : Hid (OwnB w.heap.size w4 v3 (bs.map (Bk.fil 18446744073709551615))) := Lib.hid (by first | exact O3.out.below hb | exact (O3.out.alloc _).below hb | exact ((O3.out.alloc _).alloc _).below hb | exact (((O3.out.alloc _).alloc _).alloc _).below hb | exact O3.out.drew.below hb)
  clear O3; have O3 := O3_; clear O3_
  clear hb
  clear hB3 hs3
  go_wp2_with fail
  go_returns
  exact ⟨rfl, hB4⟩

set_option maxRecDepth 100000 in
set_option maxHeartbeats 6400000 in
theorem waited_zero {bs : List Bk} {now : Int} {v : Value} {w : World} {n s : Int} (hr : Row bs) (tn : isU now) (tm : isU n) (tt : isU s) (en : wts 2 bs = n) (hne : n ≠ 18446744073709551615) (HA : Hid (afterV now n = s)) (HE : Hid (afterE now n = 0)) (EX : Hid (takB bs s 2 = true)) (h0 : n = 0) (h1 : IsB w v bs) :
    Calls Try.prog 43 #[v, .int .u64 now] w fun e w' => e = .returned (.bool true) ∧ Below w.heap.size w w' := by
  have HR := Lib.hid hr
  have H1 := Lib.hid h1
  have EN := Lib.hid en
  clear hr h1 en
  have hu : isU n := tm
  have d1 : (n == 18446744073709551615) = false := beq_eq_false_iff_ne.2 hne
  have d2 : (n == 0) = true := by simp [h0]
  obtain ⟨zs, ez⟩ : ∃ y, takV bs s 2 = y := ⟨_, rfl⟩
  have EZ := Lib.hid ez
  clear ez hne hu
  clear h0
  go_enter Try.func43, Try.ntmps43
  go_wp2_with fail
  refine (lwait_ok HR.out (by omega) EN H1.out).mono ?_
  rintro e w1 ⟨rfl, hb⟩
  have hB1 : Below w.heap.size w w1 := below_thru (by go_grown) hb
  have hs1 := hB1.size
  have H1_ : Hid (IsB w1 v bs) := Lib.hid (by first | exact H1.out.below hb | exact (H1.out.alloc _).below hb | exact ((H1.out.alloc _).alloc _).below hb | exact (((H1.out.alloc _).alloc _).alloc _).below hb | exact H1.out.drew.below hb)
  clear H1; have H1 := H1_; clear H1_
  clear hb
  go_wp2_with fail
  refine (after_is HA HE tn tm).mono ?_
  rintro e w2 ⟨rfl, hb⟩
  have hB2 : Below w.heap.size w w2 := below_thru (by go_grown) hb
  have hs2 := hB2.size
  have H1_ : Hid (IsB w2 v bs) := Lib.hid (by first | exact H1.out.below hb | exact (H1.out.alloc _).below hb | exact ((H1.out.alloc _).alloc _).below hb | exact (((H1.out.alloc _).alloc _).alloc _).below hb | exact H1.out.drew.below hb)
  clear H1; have H1 := H1_; clear H1_
  clear hb
  clear hB1 hs1
  go_wp2_with fail
  refine (ltake2_is HR.out tt EZ EX H1.out).mono ?_
  rintro e w3 ⟨v3, rfl, ho, hb⟩
  have hB3 : Below w.heap.size w w3 := below_thru (by go_grown) hb
  have hs3 := hB3.size
  have H1_ : Hid (IsB w3 v bs) := Lib.hid (by first | exact H1.out.below hb | exact (H1.out.alloc _).below hb | exact ((H1.out.alloc _).alloc _).below hb | exact (((H1.out.alloc _).alloc _).alloc _).below hb | exact H1.out.drew.below hb)
  clear H1; have H1 := H1_; clear H1_
  have O3 : Hid (OwnB w.heap.size w3 v3 (zs)) := Lib.hid (ho.base (by first | omega | (simp; omega)))
  clear ho
  clear hb
  clear hB2 hs2
  go_wp2_with fail
  go_returns
  exact ⟨rfl, hB3⟩

set_option maxRecDepth 100000 in
set_option maxHeartbeats 6400000 in
theorem waited_some {bs : List Bk} {now : Int} {v : Value} {w : World} {n s : Int} (hr : Row bs) (tn : isU now) (tm : isU n) (tt : isU s) (en : wts 2 bs = n) (hne : n ≠ 18446744073709551615) (HA : Hid (afterV now n = s)) (HE : Hid (afterE now n = 0)) (EX : Hid (takB bs s 2 = true)) (h0 : n ≠ 0) (hs : 1 ≤ s) (EX2 : Hid (takB bs (s - 1) 2 = false)) (h1 : IsB w v bs) :
    Calls Try.prog 43 #[v, .int .u64 now] w fun e w' => e = .returned (.bool true) ∧ Below w.heap.size w w' := by
  have HR := Lib.hid hr
  have H1 := Lib.hid h1
  have EN := Lib.hid en
  clear hr h1 en
  have hu : isU n := tm
  have d1 : (n == 18446744073709551615) = false := beq_eq_false_iff_ne.2 hne
  have d2 : (n == 0) = false := beq_eq_false_iff_ne.2 h0
  obtain ⟨zs, ez⟩ : ∃ y, takV bs s 2 = y := ⟨_, rfl⟩
  have EZ := Lib.hid ez
  clear ez hne hu
  have tt2 : isU (s - 1) := by unfold isU at *; omega
  have ts0 := tt.1
  have ts1 := tt.2
  have u1 : IntKind.u64.wrap (s - 1) = s - 1 := IntWalk.u64_in _ (by omega)
  obtain ⟨z2, ez2⟩ : ∃ y, takV bs (s - 1) 2 = y := ⟨_, rfl⟩
  have EZ2 := Lib.hid ez2
  clear ez2 h0
  go_enter Try.func43, Try.ntmps43
  go_wp2_with fail
  refine (lwait_ok HR.out (by omega) EN H1.out).mono ?_
  rintro e w1 ⟨rfl, hb⟩
  have hB1 : Below w.heap.size w w1 := below_thru (by go_grown) hb
  have hs1 := hB1.size
  have H1_ : Hid (IsB w1 v bs) := Lib.hid (by first | exact H1.out.below hb | exact (H1.out.alloc _).below hb | exact ((H1.out.alloc _).alloc _).below hb | exact (((H1.out.alloc _).alloc _).alloc _).below hb | exact H1.out.drew.below hb)
  clear H1; have H1 := H1_; clear H1_
  clear hb
  go_wp2_with fail
  refine (after_is HA HE tn tm).mono ?_
  rintro e w2 ⟨rfl, hb⟩
  have hB2 : Below w.heap.size w w2 := below_thru (by go_grown) hb
  have hs2 := hB2.size
  have H1_ : Hid (IsB w2 v bs) := Lib.hid (by first | exact H1.out.below hb | exact (H1.out.alloc _).below hb | exact ((H1.out.alloc _).alloc _).below hb | exact (((H1.out.alloc _).alloc _).alloc _).below hb | exact H1.out.drew.below hb)
  clear H1; have H1 := H1_; clear H1_
  clear hb
  clear hB1 hs1
  go_wp2_with fail
  refine (ltake2_is HR.out tt EZ EX H1.out).mono ?_
  rintro e w3 ⟨v3, rfl, ho, hb⟩
  have hB3 : Below w.heap.size w w3 := below_thru (by go_grown) hb
  have hs3 := hB3.size
  have H1_ : Hid (IsB w3 v bs) := Lib.hid (by first | exact H1.out.below hb | exact (H1.out.alloc _).below hb | exact ((H1.out.alloc _).alloc _).below hb | exact (((H1.out.alloc _).alloc _).alloc _).below hb | exact H1.out.drew.below hb)
  clear H1; have H1 := H1_; clear H1_
  have O3 : Hid (OwnB w.heap.size w3 v3 (zs)) := Lib.hid (ho.base (by first | omega | (simp; omega)))
  clear ho
  clear hb
  clear hB2 hs2
  clear O3
  go_wp2_with fail
  refine (ltake2_is HR.out tt2 EZ2 EX2 H1.out).mono ?_
  rintro e w4 ⟨v4, rfl, ho, hb⟩
  have hB4 : Below w.heap.size w w4 := below_thru (by go_grown) hb
  have hs4 := hB4.size
  have H1_ : Hid (IsB w4 v bs) := Lib.hid (by first | exact H1.out.below hb | exact (H1.out.alloc _).below hb | exact ((H1.out.alloc _).alloc _).below hb | exact (((H1.out.alloc _).alloc _).alloc _).below hb | exact H1.out.drew.below hb)
  clear H1; have H1 := H1_; clear H1_
  have O4 : Hid (OwnB w.heap.size w4 v4 (z2)) := Lib.hid (ho.base (by first | omega | (simp; omega)))
  clear ho
  clear hb
  clear hB3 hs3
  go_wp2_with fail
  go_returns
  exact ⟨rfl, hB4⟩

theorem waited_any {bs : List Bk} {now : Int} {v : Value} {w : World} (hr : Row bs) (tn : isU now) (hA : ∀ b ∈ bs, b.a = now) (h1 : IsB w v bs) :
    Calls Try.prog 43 #[v, .int .u64 now] w fun e w' => e = .returned (.bool true) ∧ Below w.heap.size w w' := by
  have hn0 := tn.1
  have hn1 := tn.2
  rcases row_wait (c := 2) hr hA with ⟨e, h⟩ | ⟨m0, m1, m2, h, hz⟩
  · exact waited_never hr tn e (Lib.hid h) (Lib.hid rfl) (Lib.hid rfl) h1
  · obtain ⟨n, en⟩ : ∃ n, wts 2 bs = n := ⟨_, rfl⟩
    rw [en] at m0 m1 m2 h hz
    have hle : n ≤ 18446744073709551615 - now := by
      by_cases q : bs = []
      · have : n = 0 := by rw [← en, q]; rfl
        omega
      · exact m2 q
    have ha : afterV now n = now + n ∧ afterE now n = 0 := by
      unfold afterV afterE
      constructor <;> (first | rw [if_neg (by omega)] | rw [if_pos (by omega)])
    have tm : isU n := by unfold isU; omega
    have tt : isU (now + n) := by unfold isU; omega
    by_cases z : n = 0
    · exact waited_zero hr tn tm tt en m1 (Lib.hid ha.1) (Lib.hid ha.2) (Lib.hid h) z h1
    · exact waited_some hr tn tm tt en m1 (Lib.hid ha.1) (Lib.hid ha.2) (Lib.hid h) z (by omega) (Lib.hid (hz (by omega))) h1

end Go.Proofs.Ytmpcpflpcfanjaa
