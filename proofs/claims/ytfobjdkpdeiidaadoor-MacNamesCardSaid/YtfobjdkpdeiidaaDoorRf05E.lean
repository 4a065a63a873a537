/-
  The reference of layer 5: Of, Sum.
-/
import Derived.Test.YtfobjdkpdeiidaaDoorRf05D
namespace Go.Proofs.YtfobjdkpdeiidaaDoor
open Go.RowKit

set_option maxRecDepth 100000 in
set_option maxHeartbeats 1600000 in
theorem rof_is {v : Value} {xs D : List Int} (w : World) (hi : Hid (IsL w .u8 v xs)) (hl : xs.length ≤ 128000) (hx : Hid (bytesL xs)) (hD : Hid (shaOf xs = D)) :
    Calls Tryd.prog 28 #[v] w fun e w' => e = .returned (dv D) ∧ Below w.heap.size w w' := by
  obtain ⟨a0, c0, rfl, hin0, h0⟩ := id hi.out
  have m1 := hin0.room
  have m2 := hin0.most
  clear hin0 h0
  obtain ⟨T, hT⟩ : ∃ T, after first (xs ++ padL xs.length) = T := ⟨_, rfl⟩
  have hd : dig T = D := by rw [← hD.out, ← hT]; rfl
  obtain ⟨P, hP⟩ : ∃ P, padL xs.length = P := ⟨_, rfl⟩
  rw [hP] at hT
  have HT := Lib.hid hT
  have HP := Lib.hid hP
  have hpl : P.length ≤ 72 := by rw [← hP, padL_len]; omega
  have HPB := Lib.hid (show bytesL (xs ++ P) by rw [← hP]; exact hx.out.append (padL_bytes _))
  have HDD := Lib.hid hd
  have hdl := Lib.hid (show (D.map (Value.int .u8)).length = 32 by rw [← hd, List.length_map, dig_len])
  have I32 := Lib.hid (show (Tryd.prog.info? 31).map (·.size) = some (D.map (Value.int .u8)).length by rw [hdl.out]; exact size32)
  have HLL := Lib.hid (show zero32.length = (D.map (Value.int .u8)).length by rw [hdl.out]; rfl)
  obtain ⟨ti, hin, hz0, hz1, hz2⟩ := info8
  clear hT hP hd
  go_enter Tryd.func28, Tryd.ntmps28
  go_wp2_with fail
  refine (rfirst_is _).mono ?_
  rintro e w1 ⟨rfl, hb⟩
  have hB1 : Below w.heap.size w w1 := below_thru (by go_grown) hb
  have hxr1 : Box w1 w.heap.size zero32 := Box.below (Box.newc rfl rfl) hb
  have hs1 := hB1.size
  clear hb
  go_wp2_with (at_builtin; refine wpList_append_built rfl _ _ 23 rfl 5 ti (.int .u8 0) 1 .u8 Tryd.underlying23 hin hz0 hz1 hz2 rfl [] xs _ (.slice a0 xs.length c0) _ _ _ rfl rfl rfl rfl rfl rfl (IsL.below hi.out hB1) (by unfold maxLen; simp <;> omega) (by simp <;> omega) ?_; intro va wa howa hba)
  refine (rpadding_any xs.length _ hl).mono ?_
  rintro e w3 ⟨vp, rfl, hp, hb3⟩
  rw [HP.out] at hp
  have howb := own_below howa hb3
  have hbc : Below w1.heap.size w1 w3 := below_thru hba hb3
  have hs3 := hbc.size
  clear howa hba hb3
  go_wp2_with (at_builtin; refine wpList_append_onto rfl _ _ 23 rfl w1.heap.size 5 ti (.int .u8 0) 1 .u8 Tryd.underlying23 hin hz0 hz1 hz2 rfl va ([] ++ xs) P vp rfl rfl howb hp (by unfold maxLen; simp <;> omega) (by simp <;> omega) hs3 ?_; intro vc wc howc hbd)
  have hB4 : Below w.heap.size w wc := hB1.trans ((hbc.trans hbd).mono hs1)
  have hxr4 : Box wc w.heap.size zero32 := hxr1.below (hbc.trans hbd)
  have hA := Lib.hid (show IsL wc .u8 vc (xs ++ P) from IsL.own howc rfl)
  clear howb howc hbc hbd hxr1 hp hin hz0 hz1 hz2
  refine (rafter_is _ (by rw [List.length_append]; omega) HT hA HPB).mono ?_
  rintro e w5 ⟨rfl, hb⟩
  have hB5 : Below w.heap.size w w5 := below_thru hB4 hb
  have hxr5 := hxr4.below hb
  clear hb hB4 hxr4 hA
  go_wp2_with fail
  refine (rdigest_is _ HDD).mono ?_
  rintro e w6 ⟨rfl, hb⟩
  have hB6 : Below w.heap.size w w6 := below_thru hB5 hb
  have hxr6 := hxr5.below hb
  clear hb hB5 hxr5
  go_wp2_with (refine wpList_store_box (cs := D.map (Value.int .u8)) rfl _ _ _ rfl hxr6 rfl rfl I32.out HLL.out (oneCell_ints _) ?_; intro W3 hW3)
  exact bodyPost_ret (v := dv D) (results_box Tryd.results28 hW3.box rfl Tryd.underlying31 rfl I32.out) rfl ⟨rfl, hW3.below _ _ (Nat.le_refl _) hB6⟩

end Go.Proofs.YtfobjdkpdeiidaaDoor
