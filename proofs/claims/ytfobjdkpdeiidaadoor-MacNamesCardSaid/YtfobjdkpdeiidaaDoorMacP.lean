/-
  Package mac: pads.
-/
import Derived.Test.YtfobjdkpdeiidaaDoorMacB
namespace Go.Proofs.YtfobjdkpdeiidaaDoor
open Go.RowKit

/-- Two whole values in boxes, and a third result in a slot. -/
theorem results_box3 {P : Program} {w : World} {fn : Func} {p q r : Tmp} {ty : TypeId} (h : fn.results = #[.cell p ty, .cell q ty, .tmp r]) {tmps : Array Value} {b b' : Nat} {cs cs' : List Value} {u : Value} (hb : Box w b cs) (hb' : Box w b' cs')
    (hp : tmps.getD p undef = .pointer (some ⟨b, 0, none⟩)) (hq : tmps.getD q undef = .pointer (some ⟨b', 0, none⟩)) (hr : tmps.getD r undef = u) {d : TypeDesc} (hu : P.underlying ty = some d) (hd : d.isRow = true) (hi : (P.info? ty).map (·.size) = some cs.length) (hi' : (P.info? ty).map (·.size) = some cs'.length) :
    (results fn tmps).run P w = .ok (.tuple #[.agg cs.toArray, .agg cs'.toArray, u]) w := by
  have hp' : tmps[p]?.getD undef = .pointer (some ⟨b, 0, none⟩) := by simpa using hp
  have hq' : tmps[q]?.getD undef = .pointer (some ⟨b', 0, none⟩) := by simpa using hq
  have hr' : tmps[r]?.getD undef = u := by simpa using hr
  simp [results, h, hp', hq', hr', asAddr, run_var_box hb ty hu hd hi, run_var_box hb' ty hu hd hi']

set_option maxRecDepth 100000 in
set_option maxHeartbeats 1600000 in
theorem pad_is {b : Nat} {B P : List Int} (y : Int) (w : World) (hx : Box w b (B.map (Value.int .u8))) (hl : Hid (B.length = 64)) (hP : Hid (mixL y B = P)) :
    Calls Tryd.prog 24 #[.int .u8 y, .pointer (some ⟨b, 0, none⟩)] w fun e w' => e = .returned (av P) ∧ Below w.heap.size w w' := by
  have I64 := Lib.hid (size_of64 hl.out)
  have HLL := Lib.hid (len_of64 hl.out)
  have hpl : P.length = 64 := by rw [← hP.out, mixL_len, hl.out]
  have J64 := Lib.hid (size_of64 hpl)
  have KLL := Lib.hid (len_of64 hpl)
  clear hpl
  go_enter Tryd.func24, Tryd.ntmps24
  go_upto_region 2 with (first
    | (refine wpList_load_box rfl _ _ rfl (Box.alloc hx _) rfl Tryd.underlying26 rfl I64.out ?_)
    | (refine wpList_store_box (cs := B.map (Value.int .u8)) rfl _ _ _ rfl (Box.newc (l := zero64) rfl (by simp)) rfl rfl I64.out HLL.out (oneCell_ints _) ?_; intro w1 hW))
  have hxr : Box w1 w.heap.size zero64 := hW.past _ _ (by omega) (Box.alloc (Box.newc rfl rfl) _)
  have hB1 : Below w.heap.size w w1 := hW.below _ _ (by omega) (by go_grown)
  have hxp : Box w1 (w.heap.size + 1) ((mixS y B 0).map (Value.int .u8)) := by rw [mixS_zero]; exact hW.box
  clear hW hx
  go_wp2_with fail
  go_loopw [7] (fun i wr => ∃ k : Nat, k ≤ 64 ∧ i = .int .i64 k ∧ Box wr (w.heap.size + 1) ((mixS y B k).map (Value.int .u8)) ∧ Box wr w.heap.size zero64 ∧ Below w.heap.size w wr) (fun i _ => 64 - (intOf i).toNat)
  case atStart => exact ⟨0, by omega, rfl, hxp, hxr, hB1⟩
  case round =>
    clear hxp hxr hB1
    obtain ⟨k, hk, rfl, hX, hR, hB⟩ := hrel
    have z1 := hX.lt
    by_cases hlt : k < 64
    · have hkb : k < B.length := by rw [hl.out]; exact hlt
      have c1 := hX.c k _ (nth_at k (by rw [mixS_len]; exact hkb))
      have f1 := hX.f k _ (nth_at k (by rw [mixS_len]; exact hkb))
      have S := Lib.hid (mixS_succ y B k hkb)
      rw [mixS_nth y B k hkb] at c1
      generalize nth B k = x at *
      clear hkb
      go_wp2_with fail
      go_roundw
      case rel =>
        refine ⟨k + 1, by omega, by go_num, ?_, hR.other (by show w.heap.size + 1 ≠ w.heap.size; omega) _, hB.setCell (show w.heap.size ≤ w.heap.size + 1 by omega) _⟩
        rw [← S.out, List.map_set]
        exact hX.set k _
      case measure => simp [intOf]; omega
    · obtain rfl : k = 64 := by omega
      rw [mixS_all y B 64 (by rw [hl.out]; exact Nat.le_refl _), hP.out] at hX
      go_wp2_with (first
        | (refine wpList_load_box rfl _ _ rfl hX rfl Tryd.underlying26 rfl J64.out ?_)
        | (refine wpList_store_box (cs := P.map (Value.int .u8)) rfl _ _ _ rfl hR rfl rfl J64.out KLL.out (oneCell_ints _) ?_; intro W3 hW3))
      exact bodyPost_ret (v := av P) (results_box Tryd.results24 hW3.box rfl Tryd.underlying26 rfl J64.out) rfl ⟨rfl, hW3.below _ _ (Nat.le_refl _) hB⟩

set_option maxRecDepth 100000 in
set_option maxHeartbeats 1600000 in
theorem pads_ok {v : Value} {K P Q : List Int} (w : World) (hi : Hid (IsL w .u8 v K)) (hl : K.length ≤ 200) (hk : Hid (bytesL K)) (hP : Hid (padI K = P)) (hQ : Hid (padO K = Q)) (hL : Hid (LaidS w)) :
    Calls Tryd.prog 10 #[v] w fun e w' => e = .returned (.tuple #[av P, av Q, .int .i64 0]) ∧ Below w.heap.size w w' := by
  obtain ⟨B, hBe⟩ : ∃ B, blk K = B := ⟨_, rfl⟩
  have hBl : B.length = 64 := by rw [← hBe, blk_len]
  have HBE := Lib.hid hBe
  have HBL := Lib.hid hBl
  have I64 := Lib.hid (size_of64 hBl)
  have HLL := Lib.hid (len_of64 hBl)
  have hpl : P.length = 64 := by rw [← hP.out, padI_len]
  have hql : Q.length = 64 := by rw [← hQ.out, padO_len]
  have J1 := Lib.hid (size_of64 hpl)
  have K1 := Lib.hid (len_of64 hpl)
  have J2 := Lib.hid (size_of64 hql)
  have K2 := Lib.hid (len_of64 hql)
  have M1 := Lib.hid (show mixL 54 B = P by rw [← hBe]; exact hP.out)
  have M2 := Lib.hid (show mixL 92 B = Q by rw [← hBe]; exact hQ.out)
  clear hBe hBl hpl hql
  go_enter Tryd.func10, Tryd.ntmps10
  go_wp2_with fail
  have hx2 : Box ((w.alloc (.cells zero64.toArray 26)).alloc (.cells zero64.toArray 26)) w.heap.size zero64 := Box.alloc (Box.newc rfl rfl) _
  have hx3 : Box ((w.alloc (.cells zero64.toArray 26)).alloc (.cells zero64.toArray 26)) (w.heap.size + 1) zero64 := Box.newc rfl (by simp)
  refine (block_ok _ (Lib.hid ((hi.out.alloc _).alloc _)) hl hk HBE (Lib.hid ((hL.out.alloc _).alloc _))).mono ?_
  rintro e w1 ⟨rfl, hb⟩
  have hB1 : Below w.heap.size w w1 := below_thru (by go_grown) hb
  have hx2 : Box w1 w.heap.size zero64 := Box.below hx2 hb
  have hx3 : Box w1 (w.heap.size + 1) zero64 := Box.below hx3 hb
  have hs1 := hB1.size
  have hz2 := hx3.lt
  clear hb
  go_upto_region 2 with (refine wpList_store_box (cs := B.map (Value.int .u8)) rfl _ _ _ rfl (Box.newc (l := zero64) rfl rfl) rfl rfl I64.out HLL.out (oneCell_ints _) ?_; intro w2 hW)
  have hB2 : Below w.heap.size w w2 := hW.below _ _ hs1 (hB1.alloc hs1 _)
  have hy2 : Box w2 w.heap.size zero64 := hW.past _ _ (by omega) (hx2.alloc _)
  have hy3 : Box w2 (w.heap.size + 1) zero64 := hW.past _ _ (by omega) (hx3.alloc _)
  have hxb := hW.box
  clear hW hB1 hx2 hx3
  have hmf : ∀ (fn : Fn) (first cap : Array Value) (w : World), (Instr.makeFunc fn first cap).run Tryd.prog w = .ok (.func fn first cap) w := fun _ _ _ _ => rfl
  go_wp2_with fail
  trace_state
  refine (pad_is 54 _ hxb HBL M1).mono ?_
  rintro e w3 ⟨rfl, hb⟩
  have hB3 : Below w.heap.size w w3 := below_thru hB2 hb
  have hy2 := hy2.below hb
  have hy3 := hy3.below hb
  have hxb := hxb.below hb
  clear hb hB2
  go_wp2_with fail
  refine (pad_is 92 _ hxb HBL M2).mono ?_
  rintro e w4 ⟨rfl, hb⟩
  have hB4 : Below w.heap.size w w4 := below_thru hB3 hb
  have hy2 := hy2.below hb
  have hy3 := hy3.below hb
  clear hb hB3
  have hz4 := hy3.lt
  go_wp2_with (first
    | (refine wpList_store_box (cs := P.map (Value.int .u8)) rfl _ _ _ rfl hy2 rfl rfl J1.out K1.out (oneCell_ints _) ?_; intro w5 hW5)
    | (refine wpList_store_box (cs := Q.map (Value.int .u8)) rfl _ _ _ rfl (hW5.past _ _ (by omega) hy3) rfl rfl J2.out K2.out (oneCell_ints _) ?_; intro w6 hW6))
  exact bodyPost_ret (v := .tuple #[av P, av Q, .int .i64 0]) (results_box3 Tryd.results10 (hW6.past _ _ (by omega) hW5.box) hW6.box rfl rfl rfl Tryd.underlying26 rfl J1.out J2.out) rfl ⟨rfl, hW6.below _ _ (by omega) (hW5.below _ _ (Nat.le_refl _) hB4)⟩

end Go.Proofs.YtfobjdkpdeiidaaDoor
