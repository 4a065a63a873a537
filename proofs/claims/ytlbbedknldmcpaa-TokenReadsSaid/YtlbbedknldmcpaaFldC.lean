/-
  Package field, walked: Size, checkKinds.
-/
import Derived.Test.YtlbbedknldmcpaaFldB
namespace Go.Proofs.Ytlbbedknldmcpaa
open Go.RowKit

theorem all_take_succ {fs : List Fd} {k : Nat} (h : k < fs.length) (h1 : ∀ f ∈ fs.take k, f.ok = true) (h2 : (fs[k]).ok = true) : ∀ f ∈ fs.take (k + 1), f.ok = true := fun f hf => by
  rw [List.take_succ_eq_append_getElem h] at hf
  rcases List.mem_append.1 hf with q | q
  · exact h1 f q
  · simp at q
    rw [q]; exact h2
theorem Fd.err_two (f : Fd) : (f.ok = true ∧ f.err = 0) ∨ (f.ok = false ∧ f.err = 8) := by
  unfold Fd.err
  cases f.ok <;> simp
theorem rowV_bad {fs : List Fd} (h : rowE fs ≠ 0) : rowV fs = [] := if_neg h
theorem rowV_ok {fs : List Fd} (h : rowE fs = 0) : rowV fs = rowB fs := if_pos h
theorem rowB_take_succ {fs : List Fd} {k : Nat} (h : k < fs.length) : rowB (fs.take (k + 1)) = rowB (fs.take k) ++ (fs[k]).bs := by
  rw [List.take_succ_eq_append_getElem h, rowB_snoc]
theorem lenFld (f : Fd) : (Try.prog.info? 44).map (·.size) = some f.v.length := by rw [sizeFld, f.v_len]
theorem oneFld (f : Fd) : f.v.toArray.all (·.oneCell') = true := all_oneCell_toArray (LF.one f)

theorem ret_i {a b : Int} (h : a = b) : Ending.returned (.int .i64 a) = .returned (.int .i64 b) := by rw [h]
theorem pair_i {a b c d : Int} (h1 : a = c) (h2 : b = d) : Ending.returned (.tuple #[.int .i64 a, .int .i64 b]) = .returned (.tuple #[.int .i64 c, .int .i64 d]) := by rw [h1, h2]

set_option maxRecDepth 100000 in
set_option maxHeartbeats 1600000 in
theorem size_is {v : Value} {fs : List Fd} (w : World) (h1 : IsR LF w v fs) : Calls Try.prog 25 #[v] w fun e w' => e = .returned (.tuple #[.int .i64 ((rowV fs).length : Nat), .int .i64 (rowE fs)]) ∧ Below w.heap.size w w' := by
  obtain ⟨a0, c0, rfl, hr⟩ := id h1
  have i1 := hr.room
  have i2 := hr.most
  clear hr
  by_cases hl : 40 < fs.length
  · have e1 := rowE_many hl
    have e2 := rowV_bad (fs := fs) (by rw [e1]; decide)
    have d1 : decide ((40 : Int) < (fs.length : Int)) = true := decide_eq_true (by omega)
    rw [e1, e2]
    clear e1 e2 hl h1
    go_enter Try.func25, Try.ntmps25
    go_wp2_with fail
    go_returns
    exact ⟨rfl, Below.refl _ _⟩
  · have d1 : decide ((40 : Int) < (fs.length : Int)) = false := decide_eq_false (by omega)
    have HR := Lib.hid h1
    clear h1
    go_enter Try.func25, Try.ntmps25
    go_wp2_with fail
    go_loopw [4, 13] (fun s4 s13 wr => ∃ k m : Nat, s13 = .int .i64 k ∧ s4 = .int .i64 m ∧ k ≤ fs.length ∧ Hid (m = (rowB (fs.take k)).length) ∧ m ≤ 1280 ∧ Hid (∀ f ∈ fs.take k, f.ok = true) ∧ Below w.heap.size w wr) (fun _ s13 _ => fs.length - (intOf s13).toNat)
    case atStart => exact ⟨0, 0, rfl, rfl, by omega, Lib.hid rfl, by omega, Lib.hid (fun f hf => by simp at hf), Below.refl _ _⟩
    case round =>
      obtain ⟨k, m, rfl, rfl, hk, HM, hm, HE, hB⟩ := hrel
      have hs := hB.size
      by_cases hlt : k < fs.length
      case neg =>
        have hkk : fs.take k = fs := List.take_of_length_le (by omega)
        have e1 : rowE fs = 0 := rowE_ok (by omega) (by have := HE.out; rwa [hkk] at this)
        have e2 := rowV_ok e1
        have e3 : (rowV fs).length = m := by rw [e2, HM.out, hkk]
        have HX := Lib.hid (And.intro e1 e3)
        clear e1 e2 e3 hkk
        go_wp2_with fail
        go_returns
        exact ⟨pair_i (by rw [HX.out.2]) HX.out.1.symm, hB⟩
      case pos =>
        obtain ⟨b, off, rfl, hR⟩ := HR.out.get 34 rfl (List.getElem?_eq_getElem hlt)
        have hR1 := range_below hR hB
        obtain ⟨f, hf⟩ : ∃ f, fs[k] = f := ⟨_, rfl⟩
        rw [hf] at hR1
        have hS := lenFld f
        have h1 := oneFld f
        have hz : Fd.zero.v.length = f.v.length := by rw [f.v_len, Fd.v_len]
        have C := check_is f
        have W := wd_is f.k
        have hwl := wid_le f.k
        have HM2 : Hid (m + wid f.k = (rowB (fs.take (k + 1))).length) := Lib.hid (by rw [rowB_take_succ hlt, hf, List.length_append, ← HM.out, f.bs_len])
        have hm2 : m + wid f.k ≤ 1280 := by
          have h2 := rowB_le (fs.take (k + 1))
          rw [← HM2.out, List.length_take] at h2
          omega
        obtain ⟨n, hn⟩ : ∃ n, wid f.k = n := ⟨_, rfl⟩
        rw [hn] at W HM2 hm2
        clear hR hwl hn
        obtain ⟨V, hV⟩ : ∃ V, f.v = V := ⟨_, rfl⟩
        have v0 : V[0]? = some (.int .u8 f.k) := by rw [← hV]; rfl
        rw [hV] at hS h1 C hz
        rw [show LF.f f = V from hV] at hR1
        clear hV
        obtain ⟨r, hr⟩ : ∃ r, f.err = r := ⟨_, rfl⟩
        rw [hr] at C
        rcases Fd.err_two f with ⟨q1, q2⟩ | ⟨q1, q2⟩
        · have HE2 := Lib.hid (all_take_succ hlt HE.out (by rw [hf]; exact q1))
          obtain rfl : r = 0 := by rw [← hr, q2]
          clear q1 q2 hr hf
          go_upto_region 7 with (first | refine wpList_load_range rfl _ _ rfl hR1 rfl Try.underlying44 rfl hS ?_ | (refine wpList_store_box (cs := V) rfl _ _ _ rfl (Box.newc (l := Fd.zero.v) rfl rfl) rfl rfl hS hz h1 ?_; intro W1 hW1))
          have hB1 : Below w.heap.size w W1 := hW1.below _ _ hs (by go_grown)
          have hbx := hW1.box
          go_wp2_with (refine wpList_load_box rfl _ _ rfl hbx rfl Try.underlying44 rfl hS ?_)
          refine (C _).mono ?_
          rintro e w2 ⟨rfl, hb⟩
          have hB2 := below_thru hB1 hb
          have hbx2 := hbx.below hb
          have v1 := hbx2.c 0 _ v0
          go_wp2_with fail
          refine (W _).mono ?_
          rintro e w3 ⟨rfl, rfl⟩
          go_wp2_with fail
          go_roundw
          case rel => exact ⟨k + 1, m + n, by go_num, by go_num, by omega, HM2, hm2, HE2, hB2⟩
          case measure => simp [intOf]; omega
        · have HX := Lib.hid (rowE_bad (fs := fs) (by omega) (List.getElem_mem hlt) (by rw [hf]; exact q1))
          have HY := Lib.hid (rowV_bad (fs := fs) (by rw [HX.out]; decide))
          obtain rfl : r = 8 := by rw [← hr, q2]
          clear q1 q2 hr hf
          go_upto_region 7 with (first | refine wpList_load_range rfl _ _ rfl hR1 rfl Try.underlying44 rfl hS ?_ | (refine wpList_store_box (cs := V) rfl _ _ _ rfl (Box.newc (l := Fd.zero.v) rfl rfl) rfl rfl hS hz h1 ?_; intro W1 hW1))
          have hB1 : Below w.heap.size w W1 := hW1.below _ _ hs (by go_grown)
          have hbx := hW1.box
          go_wp2_with (refine wpList_load_box rfl _ _ rfl hbx rfl Try.underlying44 rfl hS ?_)
          refine (C _).mono ?_
          rintro e w2 ⟨rfl, hb⟩
          have hB2 := below_thru hB1 hb
          go_wp2_with fail
          go_returns
          exact ⟨pair_i (by rw [HY.out]; rfl) HX.out.symm, hB2⟩

set_option maxRecDepth 100000 in
set_option maxHeartbeats 1600000 in
theorem ckinds_is {v : Value} {ks : List Int} (w : World) (h1 : IsL w .u8 v ks) : Calls Try.prog 21 #[v] w fun e w' => e = .returned (.int .i64 (kinE ks)) ∧ Below w.heap.size w w' := by
  obtain ⟨a0, c0, rfl, hr, _⟩ := id h1
  have i1 := hr.room
  have i2 := hr.most
  clear hr
  by_cases hl : 40 < ks.length
  · have e1 := kinE_many hl
    have d1 : decide ((40 : Int) < (ks.length : Int)) = true := decide_eq_true (by omega)
    rw [e1]
    clear e1 hl h1
    go_enter Try.func21, Try.ntmps21
    go_wp2_with fail
    go_returns
    exact ⟨rfl, Below.refl _ _⟩
  · have d1 : decide ((40 : Int) < (ks.length : Int)) = false := decide_eq_false (by omega)
    have HR := Lib.hid h1
    clear h1
    go_enter Try.func21, Try.ntmps21
    go_wp2_with fail
    go_loopw [12] (fun s12 wr => ∃ k : Nat, s12 = .int .i64 k ∧ k ≤ ks.length ∧ Hid (∀ x ∈ ks.take k, wid x ≠ 0) ∧ Below w.heap.size w wr) (fun s12 _ => ks.length - (intOf s12).toNat)
    case atStart => exact ⟨0, rfl, by omega, Lib.hid (fun f hf => by simp at hf), Below.refl _ _⟩
    case round =>
      obtain ⟨k, rfl, hk, HE, hB⟩ := hrel
      have hs := hB.size
      by_cases hlt : k < ks.length
      case neg =>
        have hkk : ks.take k = ks := List.take_of_length_le (by omega)
        have HX := Lib.hid (show (0 : Int) = kinE ks from (kinE_ok (by omega) (by have := HE.out; rwa [hkk] at this)).symm)
        clear hkk
        go_wp2_with fail
        go_returns
        exact ⟨ret_i HX.out, hB⟩
      case pos =>
        obtain ⟨b, off, rfl, hc⟩ := HR.out.get k hlt
        have c0 := cell_below hB hc
        obtain ⟨x, hx⟩ : ∃ x, nth ks k = x := ⟨_, rfl⟩
        have hxm : x ∈ ks := by
          rw [← hx]; unfold nth
          rw [List.getD_eq_getElem?_getD, List.getElem?_eq_getElem hlt, Option.getD_some]
          exact List.getElem_mem hlt
        rw [hx] at c0
        have W := width_is x
        by_cases h0 : wid x = 0
        · have HX := Lib.hid (show (2 : Int) = kinE ks from (kinE_bad (by omega) hxm h0).symm)
          have hc : widE x = 2 := if_pos h0
          rw [hc, h0] at W
          clear hc h0 hxm hx
          go_wp2_with fail
          refine (W _).mono ?_
          rintro e w3 ⟨rfl, rfl⟩
          go_wp2_with fail
          go_returns
          exact ⟨ret_i HX.out, hB⟩
        · have HE2 := Lib.hid (show ∀ y ∈ ks.take (k + 1), wid y ≠ 0 from fun y hy => by
            rw [take_succ_nth hlt, hx] at hy
            rcases List.mem_append.1 hy with q | q
            · exact HE.out y q
            · simp at q
              rw [q]; exact h0)
          have hc : widE x = 0 := if_neg h0
          rw [hc] at W
          obtain ⟨n, hn⟩ : ∃ n, wid x = n := ⟨_, rfl⟩
          rw [hn] at W
          clear hc h0 hxm hx hn
          go_wp2_with fail
          refine (W _).mono ?_
          rintro e w3 ⟨rfl, rfl⟩
          go_wp2_with fail
          go_roundw
          case rel => exact ⟨k + 1, by go_num, by omega, HE2, hB⟩
          case measure => simp [intOf]; omega

end Go.Proofs.Ytlbbedknldmcpaa
