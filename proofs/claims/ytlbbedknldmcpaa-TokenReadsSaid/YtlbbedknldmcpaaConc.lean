/-
  slices.Grow of a nil row, slices.Concat of rows of bytes, walked.
-/
import Derived.Test.YtlbbedknldmcpaaZerA
import Derived.Test.YtlbbedknldmcpaaFldH
namespace Go.Proofs.Ytlbbedknldmcpaa
open Go.RowKit

theorem own_cut {w : World} {B e n g cap : Nat} {l : List Value} (h : w.ownsRow B e 1 (.slice (some ⟨g, 0, none⟩) n cap) n l) : w.ownsRow B e 1 (.slice (some ⟨g, 0, none⟩) 0 cap) ([] : List Int).length (([] : List Int).map (Value.int .u8)) := by
  obtain ⟨_, ⟨h1, _⟩ | ⟨g', cap', cur, h1, hb, hg, h2, h3, h4, h5⟩⟩ := h
  · cases h1
  · injection h1 with e1 e2 e3
    cases e1
    subst e3
    exact ⟨rfl, .inr ⟨g, cap, cur, rfl, hb, hg, Nat.zero_le _, h3, h4, by simp⟩⟩

set_option maxRecDepth 100000 in
set_option maxHeartbeats 1600000 in
theorem grow_is (n : Nat) (hn : n ≤ 100000) (w : World) : Calls Try.prog 19 #[.slice none 0 0, .int .i64 n] w (GivesOwn [] w) := by
  obtain ⟨ti, hin, hz0, hz1, hz2⟩ := info_parts info_u8'
  have i0 : (0 : Int) ≤ (n : Int) := by omega
  by_cases h0 : n = 0
  · subst h0
    have d1 : decide (((0 : Nat) : Int) > 0) = false := by decide
    go_enter Try.func19, Try.ntmps19
    go_wp2_with fail
    go_returns
    exact ⟨_, rfl, ownU_nil, Below.refl _ _⟩
  · have i1 : (0 : Int) < (n : Int) := by omega
    go_enter Try.func19, Try.ntmps19
    go_wp2_with (at_builtin; refine wpList_append_zeros rfl _ _ 28 3 rfl w.heap.size 5 ti (.int .u8 0) .i64 .i64 Try.underlying28 Try.underlying3 hin hz0 hz1 hz2 rfl rfl (.slice none 0 0) 0 [] n rfl rfl ownU_nil (by omega) (Nat.le_refl _) ?_; intro va wa hoa hga)
    have hB : Below w.heap.size w wa := (Below.refl _ w).grown hga (Nat.le_refl _) (by intro k hk; cases hk)
    obtain ⟨aa, ca, rfl, hl1, hl2⟩ : ∃ g c, va = .slice (some ⟨g, 0, none⟩) n c ∧ n ≤ c ∧ c ≤ 9223372036854775807 := by
      rcases hoa.2 with ⟨h', q⟩ | ⟨g', cap', cur, h', _, _, q1, q2, _⟩
      · omega
      · exact ⟨g', cap', by simpa using h', by omega, by unfold maxLen at q2; omega⟩
    have hoc := own_cut (n := n) (l := [] ++ List.replicate n (.int .u8 0)) (by simpa using hoa)
    clear hoa hga
    have q1 : ¬ ((ca : Int) < 0) := by omega
    have q2 : (0 : Int) ≤ (ca : Int) := by omega
    go_wp2_with fail
    go_returns
    exact ⟨_, rfl, hoc, hB⟩

theorem flat_take_succ (xss : List (List Int)) (k : Nat) (h : k < xss.length) : (xss.take (k + 1)).flatten = (xss.take k).flatten ++ xss[k] := by
  rw [List.take_succ_eq_append_getElem h, List.flatten_append]
  simp
theorem flat_take_le (xss : List (List Int)) (k : Nat) : (xss.take k).flatten.length ≤ xss.flatten.length := by
  conv => rhs; rw [← List.take_append_drop k xss]
  rw [List.flatten_append, List.length_append]
  omega

set_option maxRecDepth 100000 in
set_option maxHeartbeats 1600000 in
theorem concat_is {b n : Nat} {vs : List Value} {xss : List (List Int)} (w : World) (hb : Box w b vs) (hL : ∀ (i : Nat) (v : Value) (xs : List Int), vs[i]? = some v → xss[i]? = some xs → IsL w .u8 v xs) (hv : n = vs.length) (hx : n = xss.length) (hn : n ≤ 1000) (hs : xss.flatten.length ≤ 100000) :
    Calls Try.prog 14 #[.slice (some ⟨b, 0, none⟩) n n] w (GivesOwn xss.flatten w) := by
  obtain ⟨ti, hin, hz0, hz1, hz2⟩ := info_parts info_u8'
  have HL := Lib.hid hL
  have HV := Lib.hid hv
  have HX := Lib.hid hx
  have HT := fun k => flat_take_le xss k
  have HS := Lib.hid (flat_take_succ xss)
  have zb := hb.lt
  clear hL hv hx
  go_enter Try.func14, Try.ntmps14
  go_wp2_with fail
  go_loopw [3, 11] (fun s3 s11 wr => ∃ k : Nat, s11 = .int .i64 k ∧ s3 = .int .i64 ((xss.take k).flatten.length : Nat) ∧ k ≤ n ∧ Below w.heap.size w wr) (fun _ s11 _ => n - (intOf s11).toNat)
  case atStart => exact ⟨0, rfl, rfl, by omega, Below.refl _ _⟩
  case round =>
    obtain ⟨k, rfl, rfl, hk, hB⟩ := hrel
    have hs0 := hB.size
    by_cases hlt : k < n
    case pos =>
      obtain ⟨v, hve⟩ : ∃ v, vs[k]? = some v := ⟨_, List.getElem?_eq_getElem (by have := HV.out; omega)⟩
      have hkx : k < xss.length := by have := HX.out; omega
      have hl1 := HL.out k v _ hve (List.getElem?_eq_getElem hkx)
      have ht := HS.out k hkx
      have c1 := cell_below hB (hb.c k v hve)
      obtain ⟨xs, hxs⟩ : ∃ xs, xss[k] = xs := ⟨_, rfl⟩
      rw [hxs] at hl1 ht
      obtain ⟨av, cv, rfl, hi, _⟩ := hl1
      have hi1 := hi.room
      have hi2 := hi.most
      have hle := HT (k + 1)
      rw [ht, List.length_append] at hle
      have HE := Lib.hid (show (((xss.take (k + 1)).flatten.length : Nat) : Int) = ((xss.take k).flatten.length : Nat) + (xs.length : Nat) by rw [ht, List.length_append]; omega)
      obtain ⟨S, hS⟩ : ∃ S, (xss.take k).flatten.length = S := ⟨_, rfl⟩
      rw [hS] at hle HE ⊢
      have zr := lt_of_cell c1
      clear hve hxs hi ht hS
      have i0 : (0 : Int) ≤ (S : Int) := by omega
      have i1 : (0 : Int) ≤ (xs.length : Int) := by omega
      have i3 : (S : Int) + (xs.length : Int) ≤ 100000 := by omega
      have i4 : (k : Int) < (n : Int) := by omega
      have i5 : decide ((S : Int) + (xs.length : Int) < 0) = false := decide_eq_false (by omega)
      go_wp2_with fail
      go_roundw
      case rel => exact ⟨k + 1, by go_num, by rw [HE.out], by omega, hB⟩
      case measure => simp [intOf]; omega
    case neg =>
      obtain rfl : k = n := by omega
      have HK := Lib.hid (show xss.take k = xss from List.take_of_length_le (by have := HX.out; omega))
      rw [HK.out]
      obtain ⟨S, hS⟩ : ∃ S, xss.flatten.length = S := ⟨_, rfl⟩
      rw [hS] at hs ⊢
      have HSS := Lib.hid hS
      clear hS
      go_wp2_with fail
      refine (grow_is S hs _).mono ?_
      rintro e w1 ⟨v1, rfl, ho1, hb1⟩
      have hB1 := below_thru hB hb1
      have ho2 := ownR_base ho1 hB.size
      clear ho1 hb1
      go_wp2_with fail
      go_loopw [6, 27] (fun s6 s27 wr => ∃ j m : Nat, s27 = .int .i64 j ∧ j ≤ k ∧ Hid (wr.ownsRow w.heap.size 5 1 s6 m ((xss.take j).flatten.map (Value.int .u8))) ∧ Hid (m = (xss.take j).flatten.length) ∧ Below w.heap.size w wr) (fun _ s27 _ => k - (intOf s27).toNat)
      case atStart => exact ⟨0, 0, rfl, by omega, Lib.hid ho2, Lib.hid rfl, hB1⟩
      case round =>
        clear hB1 ho2 hB hs0
        obtain ⟨j, m, rfl, hj, HO, HM, hB⟩ := hrel
        have hs2 := hB.size
        by_cases hlt2 : j < k
        case pos =>
          obtain ⟨v, hve⟩ : ∃ v, vs[j]? = some v := ⟨_, List.getElem?_eq_getElem (by have := HV.out; omega)⟩
          have hkx : j < xss.length := by have := HX.out; omega
          have hl1 := (HL.out j v _ hve (List.getElem?_eq_getElem hkx)).below hB
          have ht := HS.out j hkx
          have c1 := cell_below hB (hb.c j v hve)
          have hle := HT (j + 1)
          obtain ⟨xs, hxs⟩ : ∃ xs, xss[j] = xs := ⟨_, rfl⟩
          rw [hxs] at hl1 ht
          rw [ht, List.length_append, HSS.out, ← HM.out] at hle
          have HT2 := Lib.hid ht
          obtain ⟨av, cv, rfl, hi, h0⟩ := hl1
          have zr := lt_of_cell c1
          have i4 : (j : Int) < (k : Int) := by omega
          clear hve hxs ht hkx
          go_wp2_with (at_builtin; refine wpList_append_ints rfl _ _ 28 rfl w.heap.size 5 ti (.int .u8 0) 1 .u8 Try.underlying28 hin hz0 hz1 hz2 rfl _ m _ rfl HO.out av cv xs rfl hi h0 (by unfold maxLen; omega) (by omega) hs2 ?_; intro v4 w4 hown4 hgrow4)
          have hB4 := hB.grown hgrow4 hs2 (own_block HO.out)
          have HO4 : Hid (w4.ownsRow w.heap.size 5 1 v4 (m + xs.length) ((xss.take (j + 1)).flatten.map (Value.int .u8))) := Lib.hid (by rw [HT2.out, List.map_append]; exact hown4)
          have HM4 : Hid (m + xs.length = (xss.take (j + 1)).flatten.length) := Lib.hid (by rw [HT2.out, List.length_append, ← HM.out])
          clear hown4 hgrow4 HO hi h0
          go_wp2_with fail
          go_roundw
          case rel => exact ⟨j + 1, m + xs.length, by go_num, by omega, HO4, HM4, hB4⟩
          case measure => simp [intOf]; omega
        case neg =>
          obtain rfl : j = k := by omega
          go_wp2_with fail
          go_returns
          refine ⟨_, rfl, ?_, hB⟩
          have h1 := HO.out
          rw [HK.out] at h1
          have h2 := HM.out
          rw [HK.out] at h2
          rwa [h2] at h1

end Go.Proofs.Ytlbbedknldmcpaa
