/-
  The helpers of TopBuckets, walked: whether two buckets admit what both hold, the wait of a row, what a bucket has at most.
-/
import Derived.Test.YtmpcpflpcfanjaaSame04
import Derived.Test.YtmpcpflpcfanjaaWaits04
import Derived.Test.YtmpcpflpcfanjaaList02
import Derived.Test.YtmpcpflpcfanjaaLaw03
namespace Go.Proofs.Ytmpcpflpcfanjaa
open Go.RowKit

theorem Ints.built {w : World} {k : IntKind} {c : Array Value} {t : TypeId} {m : Nat} (xs : List Int) (hc : c = (xs.map (Value.int k)).toArray) (hm : m = xs.length) (hl : xs.length ≤ 1000) : Ints (w.alloc (.cells c t)) k (some ⟨w.heap.size, 0, none⟩) m xs := by
  subst hc hm
  refine ⟨Nat.le_refl _, by omega, fun _ => ⟨_, _, rfl, fun i hi => ?_⟩⟩
  rw [World.cell?_alloc_new]
  unfold nth
  simp [hi]
theorem IsV.built {w : World} {c : Array Value} {t : TypeId} {n m : Nat} (bs : List Bool) (hc : c = (bools bs).toArray) (hn : n = bs.length) (hm : m = bs.length) (hl : bs.length ≤ 1000) : IsV (w.alloc (.cells c t)) (.slice (some ⟨w.heap.size, 0, none⟩) n m) (bools bs) := by
  subst hc hn hm
  have h : (w.alloc (.cells (bools bs).toArray t)).ownsRow w.heap.size t 1 (.slice (some ⟨w.heap.size, 0, none⟩) bs.length bs.length) bs.length (bools bs) := by
    have := World.ownsRow_lit (base := w.heap.size) (e := t) (size := 1) w (bools bs).toArray bs.length (Nat.le_refl _) (by unfold maxLen; omega) (by simp [bools_len])
    simpa using this
  exact IsV.own h (bools_len bs).symm
def aRow : List Bk := [⟨3, 1, 2, 3, 0, 10⟩, ⟨5, 0, 1, 5, 0, 10⟩]
def aEnd : List Bk := [⟨3, 1, 2, 0, 0, 12⟩, ⟨5, 0, 1, 1, 0, 12⟩]
theorem aRun : runR aRow [10, 12, 12] [3, 2, 1] 3 = aEnd := by rfl
theorem aAdm : runA aRow [10, 12, 12] [3, 2, 1] 3 = [true, false, true] := by rfl
theorem aRow_ok : Row aRow := Row.of (by rfl) (fun b hb => by
  unfold aRow at hb
  simp at hb
  rcases hb with rfl | rfl <;> (unfold isU; dsimp only; omega))
theorem aEnt : Entries [10, 12, 12] [3, 2, 1] := by
  refine ⟨by simp, rfl, fun k hk => ?_, fun k hk => ?_⟩
  · have : k = 0 ∨ k = 1 ∨ k = 2 := by simp at hk; omega
    rcases this with rfl | rfl | rfl <;> (unfold isU nth; simp)
  · have : k = 0 ∨ k = 1 ∨ k = 2 := by simp at hk; omega
    rcases this with rfl | rfl | rfl <;> (unfold nth; simp)

set_option maxRecDepth 100000 in
set_option maxHeartbeats 6400000 in
theorem atop_any (w : World) : Calls Try.prog 38 #[] w fun e w' => e = .returned (.bool true) ∧ Below w.heap.size w w' := by
  have h1 := Lib.hid (show limE 3 1 2 = 0 by decide)
  have h2 := Lib.hid (show limE 5 0 1 = 0 by decide)
  have HR := Lib.hid aRow_ok
  have HT := Lib.hid aEnt
  have HN : Hid ([(10 : Int), 12, 12].length = 3) := Lib.hid rfl
  have EZ := Lib.hid aRun
  have EA := Lib.hid aAdm
  go_enter Try.func38, Try.ntmps38
  go_wp2_with fail
  refine (full_ok h1 _).mono ?_
  rintro e w1 ⟨rfl, hb⟩
  have hB1 : Below w.heap.size w w1 := below_thru (by go_grown) hb
  have hs1 : w.heap.size ≤ w1.heap.size := hB1.size
  have t1 := hb.size
  try simp at t1
  clear hb
  go_upto_region 2 with fail
  have x_a20 : Box (w1.alloc (.cells #[.int .i64 3, .int .i64 1, .int .i64 2, .int .i64 3, .int .i64 0, .int .u64 10] 26)) w1.heap.size [.int .i64 3, .int .i64 1, .int .i64 2, .int .i64 3, .int .i64 0, .int .u64 10] := Box.new rfl
  have hB20 := hB1.alloc hs1 (.cells #[.int .i64 3, .int .i64 1, .int .i64 2, .int .i64 3, .int .i64 0, .int .u64 10] 26)
  have hs20 := hB20.size
  obtain ⟨w20, h9⟩ : ∃ W, w1.alloc (.cells #[.int .i64 3, .int .i64 1, .int .i64 2, .int .i64 3, .int .i64 0, .int .u64 10] 26) = W := ⟨_, rfl⟩
  rw [h9] at x_a20 hB20 hs20 ⊢
  clear hB1 hs1 h9
  have z_a20 := x_a20.lt
  have c_a20_0 := x_a20.c 0 _ rfl; have f_a20_0 := x_a20.f 0 _ rfl
  have c_a20_1 := x_a20.c 1 _ rfl; have f_a20_1 := x_a20.f 1 _ rfl
  have c_a20_2 := x_a20.c 2 _ rfl; have f_a20_2 := x_a20.f 2 _ rfl
  have c_a20_3 := x_a20.c 3 _ rfl; have f_a20_3 := x_a20.f 3 _ rfl
  have c_a20_4 := x_a20.c 4 _ rfl; have f_a20_4 := x_a20.f 4 _ rfl
  have c_a20_5 := x_a20.c 5 _ rfl; have f_a20_5 := x_a20.f 5 _ rfl
  go_wp2_with fail
  refine (full_ok h2 _).mono ?_
  rintro e w21 ⟨rfl, hb⟩
  have hB21 : Below w.heap.size w w21 := below_thru (by go_grown) hb
  have hs21 : w.heap.size ≤ w21.heap.size := hB21.size
  have x_a21 : Box w21 (w1.heap.size) [.int .i64 3, .int .i64 1, .int .i64 2, .int .i64 3, .int .i64 0, .int .u64 10] := (by refine Box.below ?_ hb; repeat (first | (with_reducible assumption) | (with_reducible refine Box.drew ?_) | (with_reducible refine Box.drewN ?_ _) | ((with_reducible refine Box.new ?_); simp; done) | (with_reducible apply Box.set2) | ((with_reducible apply Box.put); (with_reducible assumption); rfl) | (with_reducible refine Box.alloc ?_ _) | (with_reducible refine Box.other ?_ (by first | (dsimp only; omega) | omega) _)))
  have z_a21 := x_a21.lt
  have c_a21_0 := x_a21.c 0 _ rfl
  have f_a21_0 := x_a21.f 0 _ rfl
  have c_a21_1 := x_a21.c 1 _ rfl
  have f_a21_1 := x_a21.f 1 _ rfl
  have c_a21_2 := x_a21.c 2 _ rfl
  have f_a21_2 := x_a21.f 2 _ rfl
  have c_a21_3 := x_a21.c 3 _ rfl
  have f_a21_3 := x_a21.f 3 _ rfl
  have c_a21_4 := x_a21.c 4 _ rfl
  have f_a21_4 := x_a21.f 4 _ rfl
  have c_a21_5 := x_a21.c 5 _ rfl
  have f_a21_5 := x_a21.f 5 _ rfl
  have t21 := hb.size
  try simp at t21
  clear hb hB20 hs20 x_a20 z_a20 c_a20_0 c_a20_1 c_a20_2 c_a20_3 c_a20_4 c_a20_5 f_a20_0 f_a20_1 f_a20_2 f_a20_3 f_a20_4 f_a20_5
  go_upto_region 3 with fail
  have x_b40 : Box (w21.alloc (.cells #[.int .i64 5, .int .i64 0, .int .i64 1, .int .i64 5, .int .i64 0, .int .u64 10] 26)) w21.heap.size [.int .i64 5, .int .i64 0, .int .i64 1, .int .i64 5, .int .i64 0, .int .u64 10] := Box.new rfl
  have x_a40 := Box.alloc x_a21 (.cells #[.int .i64 5, .int .i64 0, .int .i64 1, .int .i64 5, .int .i64 0, .int .u64 10] 26)
  have hB40 := hB21.alloc hs21 (.cells #[.int .i64 5, .int .i64 0, .int .i64 1, .int .i64 5, .int .i64 0, .int .u64 10] 26)
  have hs40 := hB40.size
  obtain ⟨w40, h9⟩ : ∃ W, w21.alloc (.cells #[.int .i64 5, .int .i64 0, .int .i64 1, .int .i64 5, .int .i64 0, .int .u64 10] 26) = W := ⟨_, rfl⟩
  rw [h9] at x_b40 x_a40 hB40 hs40 ⊢
  clear hB21 hs21 h9 x_a21 z_a21 c_a21_0 c_a21_1 c_a21_2 c_a21_3 c_a21_4 c_a21_5 f_a21_0 f_a21_1 f_a21_2 f_a21_3 f_a21_4 f_a21_5
  have z_a40 := x_a40.lt
  have c_a40_0 := x_a40.c 0 _ rfl; have f_a40_0 := x_a40.f 0 _ rfl
  have c_a40_1 := x_a40.c 1 _ rfl; have f_a40_1 := x_a40.f 1 _ rfl
  have c_a40_2 := x_a40.c 2 _ rfl; have f_a40_2 := x_a40.f 2 _ rfl
  have c_a40_3 := x_a40.c 3 _ rfl; have f_a40_3 := x_a40.f 3 _ rfl
  have c_a40_4 := x_a40.c 4 _ rfl; have f_a40_4 := x_a40.f 4 _ rfl
  have c_a40_5 := x_a40.c 5 _ rfl; have f_a40_5 := x_a40.f 5 _ rfl
  have z_b40 := x_b40.lt
  have c_b40_0 := x_b40.c 0 _ rfl; have f_b40_0 := x_b40.f 0 _ rfl
  have c_b40_1 := x_b40.c 1 _ rfl; have f_b40_1 := x_b40.f 1 _ rfl
  have c_b40_2 := x_b40.c 2 _ rfl; have f_b40_2 := x_b40.f 2 _ rfl
  have c_b40_3 := x_b40.c 3 _ rfl; have f_b40_3 := x_b40.f 3 _ rfl
  have c_b40_4 := x_b40.c 4 _ rfl; have f_b40_4 := x_b40.f 4 _ rfl
  have c_b40_5 := x_b40.c 5 _ rfl; have f_b40_5 := x_b40.f 5 _ rfl
  have L1 : IsB (((w40.alloc (.cells #[.int .i64 3, .int .i64 1, .int .i64 2, .int .i64 3, .int .i64 0, .int .u64 10, .int .i64 5, .int .i64 0, .int .i64 1, .int .i64 5, .int .i64 0, .int .u64 10] 26)).alloc (.cells #[.int .u64 10, .int .u64 12, .int .u64 12] 24)).alloc (.cells #[.int .i64 3, .int .i64 2, .int .i64 1] 2)) (.slice (some ⟨w40.heap.size, 0, none⟩) 2 2) aRow := ((IsB.built aRow rfl rfl rfl rfl (by unfold aRow; simp)).alloc _).alloc _
  have L2 : Ints (((w40.alloc (.cells #[.int .i64 3, .int .i64 1, .int .i64 2, .int .i64 3, .int .i64 0, .int .u64 10, .int .i64 5, .int .i64 0, .int .i64 1, .int .i64 5, .int .i64 0, .int .u64 10] 26)).alloc (.cells #[.int .u64 10, .int .u64 12, .int .u64 12] 24)).alloc (.cells #[.int .i64 3, .int .i64 2, .int .i64 1] 2)) .u64 (some ⟨w40.heap.size + 1, 0, none⟩) 3 [10, 12, 12] := by
    have := (Ints.built (w := w40.alloc (.cells #[.int .i64 3, .int .i64 1, .int .i64 2, .int .i64 3, .int .i64 0, .int .u64 10, .int .i64 5, .int .i64 0, .int .i64 1, .int .i64 5, .int .i64 0, .int .u64 10] 26)) (k := .u64) (c := #[.int .u64 10, .int .u64 12, .int .u64 12]) (t := 24) (m := 3) [10, 12, 12] rfl rfl (by simp)).alloc (.cells #[.int .i64 3, .int .i64 2, .int .i64 1] 2)
    rwa [World.size_alloc] at this
  have L3 : Ints (((w40.alloc (.cells #[.int .i64 3, .int .i64 1, .int .i64 2, .int .i64 3, .int .i64 0, .int .u64 10, .int .i64 5, .int .i64 0, .int .i64 1, .int .i64 5, .int .i64 0, .int .u64 10] 26)).alloc (.cells #[.int .u64 10, .int .u64 12, .int .u64 12] 24)).alloc (.cells #[.int .i64 3, .int .i64 2, .int .i64 1] 2)) .i64 (some ⟨w40.heap.size + 1 + 1, 0, none⟩) 3 [3, 2, 1] := by
    have := Ints.built (w := (w40.alloc (.cells #[.int .i64 3, .int .i64 1, .int .i64 2, .int .i64 3, .int .i64 0, .int .u64 10, .int .i64 5, .int .i64 0, .int .i64 1, .int .i64 5, .int .i64 0, .int .u64 10] 26)).alloc (.cells #[.int .u64 10, .int .u64 12, .int .u64 12] 24)) (k := .i64) (c := #[.int .i64 3, .int .i64 2, .int .i64 1]) (t := 2) (m := 3) [3, 2, 1] rfl rfl (by simp)
    rwa [World.size_alloc, World.size_alloc] at this
  have HL1 := Lib.hid L1
  have HL2 := Lib.hid L2
  have HL3 := Lib.hid L3
  clear L1 L2 L3
  go_wp2_with fail
  refine (lrun_is HR.out HT.out HN EZ EA HL1.out HL2.out HL3.out).mono ?_
  rintro e w5 ⟨v5, u5, rfl, ho, hu, hb⟩
  have hB5 : Below w.heap.size w w5 := below_thru (by go_grown) hb
  have hs5 := hB5.size
  obtain ⟨b3, o3, c3, rfl, q3, z3, x3, y3⟩ := (show IsB w5 v5 [⟨3, 1, 2, 0, 0, 12⟩, ⟨5, 0, 1, 1, 0, 12⟩] from ho.is).two
  have A5 := Lib.hid (IsV.own hu (bools_len _).symm)
  have f1 := x3 3 _ rfl
  have f2 := y3 3 _ rfl
  have zz := lt_of_cell f1
  clear x3 y3 hb ho hu HL1 HL2 HL3
  go_wp2_with fail
  refine (samev_tt (A5.out.alloc _) (IsV.built [true, false, true] rfl rfl rfl (by simp))).mono ?_
  rintro e w6 ⟨rfl, hb⟩
  have hB6 : Below w.heap.size w w6 := below_thru (by go_grown) hb
  have g1 := cell_below hb (cell_alloc f1)
  have g2 := cell_below hb (cell_alloc f2)
  clear hb f1 f2
  go_wp2_with fail
  go_returns
  exact ⟨rfl, hB6⟩

end Go.Proofs.Ytmpcpflpcfanjaa
