/-
  The helpers of TopBuckets, walked: whether two buckets admit what both hold, the wait of a row, what a bucket has at most.
-/
import Derived.Test.YtegbcagcfmijcaaSame04
import Derived.Test.YtegbcagcfmijcaaWaits04
import Derived.Test.YtegbcagcfmijcaaList02
import Derived.Test.YtegbcagcfmijcaaLaw03
namespace Go.Proofs.Ytegbcagcfmijcaa
open Go.RowKit

theorem Ints.built {w : World} {k : IntKind} {c : Array Value} {t : TypeId} {m : Nat} (xs : List Int) (hc : c = (xs.map (Value.int k)).toArray) (hm : m = xs.length) (hl : xs.length ≤ 1000) : Ints (w.alloc (.cells c t)) k (some ⟨w.heap.size, 0, none⟩) m xs := by
  subst hc hm
  refine ⟨Nat.le_refl _, by omega, fun _ => ⟨_, _, rfl, fun i hi => ?_⟩⟩
  rw [World.cell?_alloc_new]
  unfold nth
  simp [hi]
theorem IsV.built {w : World} {c : Array Value} {t : TypeId} {n m : Nat} (bs : List Bool) (hc : c = (bools bs).toArray) (hn : n = bs.length) (hm : m = bs.length) (hl : bs.length ≤ 1000) : IsV (w.alloc (.cells c t)) (.slice (some ⟨w.heap.size, 0, none⟩) n m) (bools bs) := by
  subst hc hn hm
  have h : (w.alloc (.cells (bools bs).toArray t)).ownsRow w.heap.size t 1 (.slice (some ⟨w.heap.size, 0, none⟩) bs.length bs.length) bs.length (bools bs) := by
    have := World.ownsRow_lit (base := w.heap.size) (e := t) (size := 1) w (bools bs).toArray bs.length (Nat.le_refl _) (by unfold maxLen; omega) (by simp [bools_len])
    simpa using this
  exact IsV.own h (bools_len bs).symm
def aRow : List Bk := [⟨3, 1, 2, 3, 0, 10⟩, ⟨5, 0, 1, 5, 0, 10⟩]
def aEnd : List Bk := [⟨3, 1, 2, 0, 0, 12⟩, ⟨5, 0, 1, 1, 0, 12⟩]
theorem aRun : runR aRow [10, 12, 12] [3, 2, 1] 3 = aEnd := by rfl
theorem aAdm : runA aRow [10, 12, 12] [3, 2, 1] 3 = [true, false, true] := by rfl
theorem aRow_ok : Row aRow := Row.of (by rfl) (fun b hb => by
  unfold aRow at hb
  simp at hb
  rcases hb with rfl | rfl <;> (unfold isU; dsimp only; omega))
theorem aEnt : Entries [10, 12, 12] [3, 2, 1] := by
  refine ⟨by simp, rfl, fun k hk => ?_, fun k hk => ?_⟩
  · have : k = 0 ∨ k = 1 ∨ k = 2 := by simp at hk; omega
    rcases this with rfl | rfl | rfl <;> (unfold isU nth; simp)
  · have : k = 0 ∨ k = 1 ∨ k = 2 := by simp at hk; omega
    rcases this with rfl | rfl | rfl <;> (unfold nth; simp)

end Go.Proofs.Ytegbcagcfmijcaa
