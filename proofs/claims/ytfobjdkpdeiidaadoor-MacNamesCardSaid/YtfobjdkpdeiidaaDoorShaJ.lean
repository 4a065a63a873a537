/-
  Package sha: a hash written to and finished, results under names; Sum.
-/
import Derived.Test.YtfobjdkpdeiidaaDoorShaI
import Derived.Test.YtfobjdkpdeiidaaDoorShaEval
namespace Go.Proofs.YtfobjdkpdeiidaaDoor
open Go.RowKit

/-- A hash as a value: words, rest, number. -/
def HashIs (w : World) (v : Value) (T : W8) (rs : List Int) (n : Int) : Prop := ∃ at0 cap, v = .agg (hashV T (.slice at0 rs.length cap) n).toArray ∧ IsL w .u8 (.slice at0 rs.length cap) rs
theorem HashIs.below {w w' : World} {v : Value} {T : W8} {rs : List Int} {n : Int} (h : HashIs w v T rs n) (hb : Below w.heap.size w w') : HashIs w' v T rs n := by
  obtain ⟨a, c, e, hi⟩ := h
  exact ⟨a, c, e, hi.below hb⟩
theorem HashIs.alloc {w : World} {v : Value} {T : W8} {rs : List Int} {n : Int} (h : HashIs w v T rs n) (o : Obj) : HashIs (w.alloc o) v T rs n := by
  obtain ⟨a, c, e, hi⟩ := h
  exact ⟨a, c, e, hi.alloc o⟩
theorem HashIs.drew {w : World} {v : Value} {T : W8} {rs : List Int} {n : Int} (h : HashIs w v T rs n) : HashIs w.drew v T rs n := by
  obtain ⟨a, c, e, hi⟩ := h
  exact ⟨a, c, e, hi.drew⟩
/-- What Write gives: the hash in memory of its own. -/
def Wrote (T : W8) (rs : List Int) (n c : Int) (w : World) (e : Ending) (w' : World) : Prop :=
  ∃ at0 cap, e = .returned (.tuple #[.agg (hashV T (.slice at0 rs.length cap) n).toArray, .int .i64 c]) ∧ OwnL w w' (.slice at0 rs.length cap) rs
theorem write_is {v v2 : Value} {h T : W8} {rs ys zs : List Int} {n m : Int} (w : World) (h1 : HashIs w v h rs n) (h2 : IsL w .u8 v2 ys) (hvd : Hid (vldH n rs.length = true)) (hm : n + ys.length ≤ 128000) (hT : Hid (after h (rs ++ ys) = T)) (hz : Hid (restOf (rs ++ ys) = zs)) (hn : Hid (n + ys.length = m))
    (hx : Hid (bytesL rs)) (hy : Hid (bytesL ys)) (hL : LaidS w) : Calls Tryd.prog 30 #[v, v2] w (Wrote T zs m 0 w) := by
  obtain ⟨a1, c1, rfl, i1⟩ := h1
  obtain ⟨a2, c2, rfl, i2, n2⟩ := h2
  have hc : 0 ≤ n ∧ n ≤ 128000 := by
    have := hvd.out
    simp only [vldH, cntB, Bool.and_eq_true, decide_eq_true_eq] at this
    exact this.1
  rw [← hT.out, ← hz.out, ← hn.out]
  refine (write_ok h a1 a2 c1 c2 rs ys n w i1 ⟨a2, c2, rfl, i2, n2⟩ hc.1 hc.2 hvd (by omega) hx.out hy.out hL).mono ?_
  rintro e w' ⟨v, rfl, ho⟩
  obtain ⟨a, c, rfl, _⟩ := ho.is
  exact ⟨a, c, rfl, ho⟩
theorem finish_is {v : Value} {h : W8} {D rs : List Int} (N : Nat) (w : World) (h1 : HashIs w v h rs (N : Int)) (hvd : Hid (vldH (N : Int) rs.length = true)) (hD : Hid (dig (after h (rs ++ padL N)) = D)) (hx : Hid (bytesL rs)) (hL : LaidS w) :
    Calls Tryd.prog 32 #[v] w fun e w' => e = .returned (.tuple #[dv D, .int .i64 0]) ∧ Below w.heap.size w w' := by
  obtain ⟨a1, c1, rfl, i1⟩ := h1
  have hc : N ≤ 128000 := by
    have := hvd.out
    simp only [vldH, cntB, Bool.and_eq_true, decide_eq_true_eq] at this
    omega
  rw [← hD.out]
  exact finish_ok h a1 c1 rs N w i1 hc hvd hx.out hL
theorem start_is (w : World) (hL : LaidS w) : Calls Tryd.prog 31 #[] w fun e w' => ∃ v, e = .returned v ∧ HashIs w' v first [] 0 ∧ Below w.heap.size w w' :=
  (start_any w hL).mono fun _ _ ⟨he, hb⟩ => ⟨_, he, ⟨none, 0, rfl, IsL.none⟩, hb⟩
theorem vld0 : vldH 0 ([] : List Int).length = true := by decide
theorem vldN {n len : Nat} (hn : n ≤ 128000) (hl : len = n % 64) : vldH (n : Int) len = true := by
  simp only [vldH, cntB, Bool.and_eq_true, decide_eq_true_eq]
  omega

set_option maxRecDepth 100000 in
set_option maxHeartbeats 1600000 in
theorem sum_ok {v : Value} {xs D : List Int} (w : World) (hi : Hid (IsL w .u8 v xs)) (hl : xs.length ≤ 128000) (hx : Hid (bytesL xs)) (hD : Hid (shaOf xs = D)) (hL : Hid (LaidS w)) :
    Calls Tryd.prog 22 #[v] w fun e w' => e = .returned (.tuple #[dv D, .int .i64 0]) ∧ Below w.heap.size w w' := by
  obtain ⟨T, hT⟩ : ∃ T, after first ([] ++ xs) = T := ⟨_, rfl⟩
  obtain ⟨rs, hr⟩ : ∃ rs, restOf ([] ++ xs) = rs := ⟨_, rfl⟩
  have hrl : rs.length = xs.length % 64 := by rw [← hr, List.nil_append, restOf_len]
  have hrb : bytesL rs := by rw [← hr]; exact hx.out.drop _
  have hd : dig (after T (rs ++ padL xs.length)) = D := by
    rw [← hD.out, ← hT, ← hr]
    unfold shaOf
    rw [List.nil_append, ← after_append]
  have HT := Lib.hid hT
  have HR := Lib.hid hr
  have HRB := Lib.hid hrb
  have HDD := Lib.hid hd
  have HV := Lib.hid (vldN hl hrl)
  have hdl := Lib.hid (show (D.map (Value.int .u8)).length = 32 by rw [← hd, List.length_map, dig_len])
  have I32 := Lib.hid (show (Tryd.prog.info? 31).map (·.size) = some (D.map (Value.int .u8)).length by rw [hdl.out]; exact size32)
  have HLL := Lib.hid (show zero32.length = (D.map (Value.int .u8)).length by rw [hdl.out]; rfl)
  clear hT hr hrl hrb hd
  go_enter Tryd.func22, Tryd.ntmps22
  go_wp2_with fail
  refine (start_is _ (hL.out.alloc _)).mono ?_
  rintro e w1 ⟨v1, rfl, hh, hb⟩
  have hB1 : Below w.heap.size w w1 := below_thru (by go_grown) hb
  have hxr : Box w1 w.heap.size zero32 := Box.below (Box.newc rfl rfl) hb
  clear hb
  go_wp2_with fail
  refine (write_is _ hh (hi.out.below hB1) (Lib.hid vld0) (by omega) HT HR (Lib.hid (Int.zero_add _)) (Lib.hid bytesL.nil) hx (hL.out.below hB1)).mono ?_
  rintro e w2 ⟨a2, c2, rfl, ho⟩
  have hB2 : Below w.heap.size w w2 := below_thru hB1 ho.2
  have hxr2 : Box w2 w.heap.size zero32 := hxr.below ho.2
  have HI2 := Lib.hid ho.is
  have hs2 := hB2.size
  have hz2 := hxr2.lt
  clear ho hxr hB1 hh
  go_upto_region 2 with (refine wpList_store_box (cs := hashV T (.slice a2 rs.length c2) (xs.length : Int)) rfl _ _ _ rfl (Box.newc (l := zero10) rfl rfl) rfl rfl size10 rfl (hash_one _ _ _ _ _) ?_; intro W3 hW3)
  have hB3 : Below w.heap.size w W3 := hW3.below _ _ hs2 (hB2.alloc hs2 _)
  have hxr3 : Box W3 w.heap.size zero32 := hW3.past _ _ (by omega) (hxr2.alloc _)
  have hxh3 := hW3.box
  have HI3 := Lib.hid (IsL.below HI2.out (hW3.below _ _ (Nat.le_refl _) ((Below.refl _ w2).alloc (Nat.le_refl _) _)))
  clear hW3 hxr2 hB2 HI2
  go_wp2_with (refine wpList_load_box rfl _ _ rfl hxh3 rfl Tryd.underlying61 rfl size10 ?_)
  refine (finish_is xs.length _ ⟨a2, c2, rfl, HI3.out⟩ HV HDD HRB (hL.out.below hB3)).mono ?_
  rintro e w4 ⟨rfl, hb⟩
  have hB4 : Below w.heap.size w w4 := below_thru hB3 hb
  have hxr4 := hxr3.below hb
  clear hb hxr3 hB3 hxh3
  go_wp2_with (refine wpList_store_box (cs := D.map (Value.int .u8)) rfl _ _ _ rfl hxr4 rfl rfl I32.out HLL.out (oneCell_ints _) ?_; intro W5 hW5)
  exact bodyPost_ret (v := .tuple #[.agg (D.map (Value.int .u8)).toArray, .int .i64 0]) (results_box2 Tryd.results22 hW5.box rfl rfl Tryd.underlying31 rfl I32.out) rfl ⟨rfl, hW5.below _ _ (Nat.le_refl _) hB4⟩

end Go.Proofs.YtfobjdkpdeiidaaDoor
