/-
  Layer 4: the statements' helpers: what fits, the row of the examples, whether the examples hold.
-/
import Derived.Test.YtegbcagcfmijcaaLev04C
import Derived.Test.YtegbcagcfmijcaaRef03
namespace Go.Proofs.Ytegbcagcfmijcaa
open Go.RowKit

/-- The row of the examples, and what becomes of it. -/
def givs : List Bk := [⟨5, 1, 1, 5, 0, 0⟩, ⟨8, 1, 4, 8, 0, 0⟩]
theorem row_of {bs : List Bk} (h : rowE bs = 0) (ha : ∀ b ∈ bs, isU b.a) : Row bs := Row.of h ha
theorem givs_row : Row givs := Row.of (by rfl) (fun b hb => by
  unfold givs at hb
  simp at hb
  rcases hb with rfl | rfl <;> exact u0)
theorem IsB.two {w : World} {v : Value} {b0 b1 : Bk} (h : IsB w v [b0, b1]) : ∃ b off cap, v = .slice (some ⟨b, off, Option.none⟩) 2 cap ∧ 2 ≤ cap ∧ cap ≤ 9223372036854775807 ∧ (∀ j x, b0.vals[j]? = some x → w.cell? ⟨b, off + j, Option.none⟩ = some x) ∧ (∀ j x, b1.vals[j]? = some x → w.cell? ⟨b, off + 6 + j, Option.none⟩ = some x) := by
  obtain ⟨at0, cap, rfl, hb⟩ := h
  obtain ⟨b, off, rfl, hc⟩ := hb.cells (by simp)
  refine ⟨b, off, cap, rfl, hb.room, hb.most, fun j x hx => ?_, fun j x hx => ?_⟩
  · have := hc 0 (by simp) j x hx
    rwa [Nat.zero_mul, Nat.add_zero] at this
  · have := hc 1 (by simp) j x hx
    rwa [Nat.one_mul] at this

set_option maxRecDepth 100000 in
set_option maxHeartbeats 3200000 in
theorem given4_any (w : World) : Calls Try.prog 4 #[] w (GivesR givs w) := by
  go_enter Try.func4, Try.ntmps4
  go_wp2_with fail
  go_returns
  refine ⟨_, rfl, ⟨rfl, Or.inr ⟨w.heap.size, 2, _, rfl, Nat.le_refl _, heap_alloc_new w _, Nat.le_refl _, by unfold maxLen; simp, rfl, rfl⟩⟩, by go_grown⟩

def bs1 : List Bk := [⟨5, 1, 1, 1, 0, 0⟩, ⟨8, 1, 4, 4, 0, 0⟩]
def bs2 : List Bk := [⟨5, 1, 1, 0, 0, 3⟩, ⟨8, 1, 4, 0, 3, 3⟩]
theorem bs1_is : takV givs 0 4 = bs1 := by rfl
theorem bs1_ok : takB givs 0 4 = true := by rfl
theorem bs2_is : takV bs1 3 4 = bs2 := by rfl
theorem bs2_ok : takB bs1 3 4 = true := by rfl
theorem bs2_wait : wts 2 bs2 = 5 := by rfl
theorem isU_3 : isU 3 := by unfold isU; omega

set_option maxRecDepth 100000 in
set_option maxHeartbeats 3200000 in
theorem alive04_any (w : World) : Calls Try.prog 12 #[] w fun e w' => e = .returned (.bool true) ∧ Below w.heap.size w w' := by
  have R0 := Lib.hid givs_row
  have R1 := Lib.hid (show Row bs1 by rw [← bs1_is]; exact givs_row.tak u0 (by omega))
  have R2 := Lib.hid (show Row bs2 by rw [← bs2_is]; exact R1.out.tak isU_3 (by omega))
  have E1 := Lib.hid bs1_is
  have E2 := Lib.hid bs1_ok
  have E3 := Lib.hid bs2_is
  have E4 := Lib.hid bs2_ok
  have E5 := Lib.hid bs2_wait
  go_enter Try.func12, Try.ntmps12
  go_wp2_with fail
  refine (given4_any _).mono ?_
  rintro e w1 ⟨v1, rfl, ho, hb⟩
  have hB1 : Below w.heap.size w w1 := below_thru (by go_grown) hb
  have hs1 := hB1.size
  have O1 : Hid (OwnB w.heap.size w1 v1 (givs)) := Lib.hid (ho.base (by first | omega | (simp; omega)))
  clear ho
  clear hb
  go_wp2_with fail
  refine (ltake_ok R0.out u0 (by omega) E1 E2 O1.out.is).mono ?_
  rintro e w2 ⟨v2, rfl, ho, hb⟩
  have hB2 : Below w.heap.size w w2 := below_thru (by go_grown) hb
  have hs2 := hB2.size
  have O1_ : Hid (OwnB w.heap.size w2 v1 (givs)) := Lib.hid (by first | exact O1.out.below hb | exact (O1.out.alloc _).below hb | exact ((O1.out.alloc _).alloc _).below hb | exact (((O1.out.alloc _).alloc _).alloc _).below hb | exact O1.out.drew.below hb)
  clear O1; have O1 := O1_; clear O1_
  have O2 : Hid (OwnB w.heap.size w2 v2 (bs1)) := Lib.hid (ho.base (by first | omega | (simp; omega)))
  clear ho
  clear hb
  clear hB1 hs1
  clear O1
  go_wp2_with fail
  refine (ltake_ok R1.out isU_3 (by omega) E3 E4 O2.out.is).mono ?_
  rintro e w3 ⟨v3, rfl, ho, hb⟩
  have hB3 : Below w.heap.size w w3 := below_thru (by go_grown) hb
  have hs3 := hB3.size
  have O2_ : Hid (OwnB w.heap.size w3 v2 (bs1)) := Lib.hid (by first | exact O2.out.below hb | exact (O2.out.alloc _).below hb | exact ((O2.out.alloc _).alloc _).below hb | exact (((O2.out.alloc _).alloc _).alloc _).below hb | exact O2.out.drew.below hb)
  clear O2; have O2 := O2_; clear O2_
  have O3 : Hid (OwnB w.heap.size w3 v3 (bs2)) := Lib.hid (ho.base (by first | omega | (simp; omega)))
  clear ho
  clear hb
  clear hB2 hs2
  go_wp2_with fail
  refine (lwait_ok R2.out (by omega) E5 O3.out.is).mono ?_
  rintro e w4 ⟨rfl, hb⟩
  have hB4 : Below w.heap.size w w4 := below_thru (by go_grown) hb
  have hs4 := hB4.size
  have O2_ : Hid (OwnB w.heap.size w4 v2 (bs1)) := Lib.hid (by first | exact O2.out.below hb | exact (O2.out.alloc _).below hb | exact ((O2.out.alloc _).alloc _).below hb | exact (((O2.out.alloc _).alloc _).alloc _).below hb | exact O2.out.drew.below hb)
  clear O2; have O2 := O2_; clear O2_
  have O3_ : Hid (OwnB w.heap.size w4 v3 (bs2)) := Lib.hid (by first | exact O3.out.below hb | exact (O3.out.alloc _).below hb | exact ((O3.out.alloc _).alloc _).below hb | exact (((O3.out.alloc _).alloc _).alloc _).below hb | exact O3.out.drew.below hb)
  clear O3; have O3 := O3_; clear O3_
  clear hb
  clear hB3 hs3
  obtain ⟨b2, o2, c2, rfl, q2, z2, x2, y2⟩ := (show IsB w4 v2 [⟨5, 1, 1, 1, 0, 0⟩, ⟨8, 1, 4, 4, 0, 0⟩] from O2.out.is).two
  obtain ⟨b3, o3, c3, rfl, q3, z3, x3, y3⟩ := (show IsB w4 v3 [⟨5, 1, 1, 0, 0, 3⟩, ⟨8, 1, 4, 0, 3, 3⟩] from O3.out.is).two
  have f1 := x2 3 _ rfl
  have f2 := y2 3 _ rfl
  have f3 := x3 3 _ rfl
  have f4 := y3 3 _ rfl
  have f5 := y3 4 _ rfl
  clear x2 y2 x3 y3 O2 O3
  go_wp2_with fail
  go_returns
  exact ⟨rfl, hB4⟩

end Go.Proofs.Ytegbcagcfmijcaa
