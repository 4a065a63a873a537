/-
  The reference of layer 6: a key's block, the block mixed.
-/
import Derived.Test.YtfobjdkpdeiidaaDoorMacQ
import Derived.Test.YtfobjdkpdeiidaaDoorRf05E
namespace Go.Proofs.YtfobjdkpdeiidaaDoor
open Go.RowKit

theorem own_sl {w : World} {B e : Nat} {v : Value} {n : Nat} {l : List Value} (h : w.ownsRow B e 1 v n l) : ∃ a c, v = .slice a n c ∧ n ≤ c ∧ c ≤ 9223372036854775807 := by
  rcases h.2 with ⟨h', h0⟩ | ⟨g', cap', cur, h', _, hg, h1, h2, _⟩
  · subst h0
    exact ⟨none, 0, h', by omega, by omega⟩
  · exact ⟨_, _, h', h1, by unfold maxLen at h2; omega⟩
def padZ (X : List Int) (k : Nat) : List Int := X ++ List.replicate k 0
theorem padZ_len (X : List Int) (k : Nat) : (padZ X k).length = X.length + k := by simp [padZ]
theorem padZ_succ (X : List Int) (k : Nat) : padZ X (k + 1) = padZ X k ++ [0] := by simp [padZ, List.replicate_succ']

set_option maxRecDepth 100000 in
set_option maxHeartbeats 1600000 in
theorem rblock_short {v : Value} {K B : List Int} (w : World) (hi : Hid (IsL w .u8 v K)) (hl : K.length ≤ 64) (hB : Hid (blk K = B)) :
    Calls Tryd.prog 34 #[v] w fun e w' => ∃ u, e = .returned u ∧ OwnL w w' u B := by
  obtain ⟨a0, c0, rfl, hin0, h0⟩ := id hi.out
  have m1 := hin0.room
  have m2 := hin0.most
  clear hin0 h0
  obtain ⟨ti, hin, hz0, hz1, hz2⟩ := info8
  obtain ⟨X, hXe⟩ : ∃ X, K = X := ⟨_, rfl⟩
  have HXB := Lib.hid (show padZ X (64 - X.length) = B by rw [← hXe, ← hB.out, blk_short hl]; rfl)
  have HX0 := Lib.hid (show padZ X 0 = [] ++ K by rw [← hXe]; simp [padZ])
  have hXl : X.length ≤ 64 := by rw [← hXe]; exact hl
  clear hXe hB
  go_enter Tryd.func34, Tryd.ntmps34
  go_upto_region 2 with (at_builtin; refine wpList_append_built rfl _ _ 23 rfl 5 ti (.int .u8 0) 1 .u8 Tryd.underlying23 hin hz0 hz1 hz2 rfl [] K _ (.slice a0 K.length c0) _ _ _ rfl rfl rfl rfl rfl rfl hi.out (by unfold maxLen; simp <;> omega) (by simp <;> omega) ?_; intro va wa howa hba)
  go_wp2_with fail
  go_loopw [3] (fun u wr => ∃ k : Nat, k ≤ 64 - X.length ∧ wr.ownsRow w.heap.size 5 1 u (padZ X k).length ((padZ X k).map (Value.int .u8)) ∧ Below w.heap.size w wr) (fun u _ => 64 - lenOf u)
  case atStart => exact ⟨0, by omega, by rw [HX0.out]; exact howa, hba⟩
  case round =>
    clear howa hba
    obtain ⟨k, hkk, hown, hB⟩ := hrel
    have LK := padZ_len X k
    obtain ⟨a, cp, rfl, hcp, hcm⟩ := own_sl hown
    have hsz := hB.size
    have LKI : ((padZ X k).length : Int) = (X.length : Int) + (k : Int) := by omega
    have HLK := Lib.hid LK
    by_cases hlt : k < 64 - X.length
    · have S := Lib.hid (padZ_succ X k)
      have d0 : ((X.length : Int) + (k : Int) < 64) := by omega
      generalize hn : (padZ X k).length = n at *
      have HN := Lib.hid hn
      clear hn
      go_wp2_with (at_builtin; refine wpList_append_onto rfl _ _ 23 rfl w.heap.size 5 ti (.int .u8 0) 1 .u8 Tryd.underlying23 hin hz0 hz1 hz2 rfl _ (padZ X k) [0] _ rfl rfl (by rw [HN.out]; exact World.ownsRow.alloc hown _) (IsL.built [0] rfl rfl rfl rfl (by simp)) (by rw [HN.out]; unfold maxLen; simp <;> omega) (by rw [HN.out]; simp <;> omega) (by simp; omega) ?_; intro va wa howa hba)
      go_roundw
      case rel => exact ⟨k + 1, by omega, by rw [S.out]; exact howa, (hB.alloc hsz _).trans hba⟩
      case measure =>
        rw [List.length_append, HN.out] at howa
        obtain ⟨a', cp', rfl, _, _⟩ := own_sl howa
        simp [lenOf]; omega
    · have hk2 : X.length + k = 64 := by omega
      have HB2 := Lib.hid (show padZ X k = B by rw [← HXB.out, ← show k = 64 - X.length by omega])
      rw [LK, hk2] at hown ⊢
      clear LKI HLK LK
      go_wp2_with fail
      go_ret
      rw [HB2.out] at hown
      refine ⟨_, rfl, ?_, hB⟩
      have : B.length = 64 := by rw [← HB2.out, padZ_len]; exact hk2
      rw [this]
      exact hown

set_option maxRecDepth 100000 in
set_option maxHeartbeats 1600000 in
theorem rblock_long {v : Value} {K B : List Int} (w : World) (hi : Hid (IsL w .u8 v K)) (hl : 64 < K.length) (hl2 : K.length ≤ 128000) (hk : Hid (bytesL K)) (hB : Hid (blk K = B)) :
    Calls Tryd.prog 34 #[v] w fun e w' => ∃ u, e = .returned u ∧ OwnL w w' u B := by
  obtain ⟨a0, c0, rfl, hin0, h0⟩ := id hi.out
  have m1 := hin0.room
  have m2 := hin0.most
  clear hin0 h0
  obtain ⟨ti, hin, hz0, hz1, hz2⟩ := info8
  obtain ⟨X, hXe⟩ : ∃ X, shaOf K = X := ⟨_, rfl⟩
  have hXl : X.length = 32 := by rw [← hXe, shaOf_len]
  have HXB := Lib.hid (show padZ X (64 - X.length) = B by rw [← hXe, ← hB.out, blk_long hl rfl]; rfl)
  have HX0 := Lib.hid (show padZ X 0 = [] ++ X by simp [padZ])
  have HXE := Lib.hid hXe
  have I32 := Lib.hid (size_dig hXl)
  have H32 := Lib.hid (len_dig hXl)
  have HXL := Lib.hid hXl
  clear hXe hB
  go_enter Tryd.func34, Tryd.ntmps34
  go_upto_region 2 with (at_builtin; refine wpList_append_built rfl _ _ 23 rfl 5 ti (.int .u8 0) 1 .u8 Tryd.underlying23 hin hz0 hz1 hz2 rfl [] K _ (.slice a0 K.length c0) _ _ _ rfl rfl rfl rfl rfl rfl hi.out (by unfold maxLen; simp <;> omega) (by simp <;> omega) ?_; intro va wa howa hba)
  go_wp2_with fail
  refine (rof_is _ (Lib.hid (IsL.below hi.out hba)) hl2 hk HXE).mono ?_
  rintro e w1 ⟨rfl, hb⟩
  have hB1 : Below w.heap.size w w1 := below_thru hba hb
  have hs1 := hB1.size
  clear hb hba howa
  go_upto_region 4 with (refine wpList_store_box (cs := X.map (Value.int .u8)) rfl _ _ _ rfl (Box.newc (l := zero32) rfl rfl) rfl rfl I32.out H32.out (oneCell_ints _) ?_; intro w2 hW)
  have hB2 : Below w.heap.size w w2 := hW.below _ _ hs1 (hB1.alloc hs1 _)
  have JX := Lib.hid (IsL.box 32 HXL.out hW.box (by omega))
  have hs2 := hB2.size
  clear hW hB1
  go_upto_region 5 with (at_builtin; refine wpList_append_built rfl _ _ 23 rfl 5 ti (.int .u8 0) 1 .u8 Tryd.underlying23 hin hz0 hz1 hz2 rfl [] X _ (.slice (some ⟨w1.heap.size, 0, none⟩) 32 32) _ _ _ rfl rfl rfl rfl rfl rfl JX.out (by unfold maxLen; simp <;> omega) (by simp <;> omega) ?_; intro vb wb howb hbb)
  have hown2 := owns_mono howb hs2
  have hbelow2 := below_thru hB2 hbb
  clear howb hbb hB2 JX
  go_loopw [3] (fun u wr => ∃ k : Nat, k ≤ 64 - X.length ∧ wr.ownsRow w.heap.size 5 1 u (padZ X k).length ((padZ X k).map (Value.int .u8)) ∧ Below w.heap.size w wr) (fun u _ => 64 - lenOf u)
  case atStart => exact ⟨0, by omega, by rw [HX0.out]; exact hown2, hbelow2⟩
  case round =>
    clear hown2 hbelow2
    obtain ⟨k, hkk, hown, hB⟩ := hrel
    have LK := padZ_len X k
    obtain ⟨a, cp, rfl, hcp, hcm⟩ := own_sl hown
    have hsz := hB.size
    have LKI : ((padZ X k).length : Int) = (X.length : Int) + (k : Int) := by omega
    have HLK := Lib.hid LK
    by_cases hlt : k < 64 - X.length
    · have S := Lib.hid (padZ_succ X k)
      have d0 : ((X.length : Int) + (k : Int) < 64) := by omega
      generalize hn : (padZ X k).length = n at *
      have HN := Lib.hid hn
      clear hn
      go_wp2_with (at_builtin; refine wpList_append_onto rfl _ _ 23 rfl w.heap.size 5 ti (.int .u8 0) 1 .u8 Tryd.underlying23 hin hz0 hz1 hz2 rfl _ (padZ X k) [0] _ rfl rfl (by rw [HN.out]; exact World.ownsRow.alloc hown _) (IsL.built [0] rfl rfl rfl rfl (by simp)) (by rw [HN.out]; unfold maxLen; simp <;> omega) (by rw [HN.out]; simp <;> omega) (by simp; omega) ?_; intro va wa howa hba)
      go_roundw
      case rel => exact ⟨k + 1, by omega, by rw [S.out]; exact howa, (hB.alloc hsz _).trans hba⟩
      case measure =>
        rw [List.length_append, HN.out] at howa
        obtain ⟨a', cp', rfl, _, _⟩ := own_sl howa
        simp [lenOf]; omega
    · have hk2 : X.length + k = 64 := by omega
      have HB2 := Lib.hid (show padZ X k = B by rw [← HXB.out, ← show k = 64 - X.length by omega])
      rw [LK, hk2] at hown ⊢
      clear LKI HLK LK
      go_wp2_with fail
      go_ret
      rw [HB2.out] at hown
      refine ⟨_, rfl, ?_, hB⟩
      have : B.length = 64 := by rw [← HB2.out, padZ_len]; exact hk2
      rw [this]
      exact hown

theorem rblock_is {v : Value} {K B : List Int} (w : World) (hi : Hid (IsL w .u8 v K)) (hl : K.length ≤ 128000) (hk : Hid (bytesL K)) (hB : Hid (blk K = B)) :
    Calls Tryd.prog 34 #[v] w fun e w' => ∃ u, e = .returned u ∧ OwnL w w' u B := by
  rcases Nat.lt_or_ge 64 K.length with q | q
  · exact rblock_long w hi q hl hk hB
  · exact rblock_short w hi q hB

set_option maxRecDepth 100000 in
set_option maxHeartbeats 1600000 in
theorem rmixed_is {v : Value} {K M : List Int} (y : Int) (w : World) (hi : Hid (IsL w .u8 v K)) (hl : K.length ≤ 128000) (hk : Hid (bytesL K)) (hM : Hid (mixL y (blk K) = M)) :
    Calls Tryd.prog 27 #[v, .int .u8 y] w fun e w' => ∃ u, e = .returned u ∧ OwnL w w' u M := by
  obtain ⟨B, hB⟩ : ∃ B, blk K = B := ⟨_, rfl⟩
  have hBl : B.length = 64 := by rw [← hB, blk_len]
  have HB := Lib.hid hB
  have HBL := Lib.hid hBl
  have HM := Lib.hid (show mixS y B 64 = M by rw [mixS_all _ _ _ (by omega), ← hB]; exact hM.out)
  clear hB hBl hM
  go_enter Tryd.func27, Tryd.ntmps27
  go_wp2_with fail
  refine (rblock_is _ hi hl hk HB).mono ?_
  rintro e w1 ⟨u, rfl, ho, hB1⟩
  rw [HBL.out] at ho
  obtain ⟨g, cap, rfl, hg, hgl⟩ := ho.form (by omega)
  obtain ⟨_, cap', e', hcp, hcm⟩ := own_sl ho
  obtain rfl : cap = cap' := by injection e'
  clear e'
  have ho0 : w1.ownsRow w.heap.size 5 1 (.slice (some ⟨g, 0, none⟩) 64 cap) 64 ((mixS y B 0).map (Value.int .u8)) := by rw [mixS_zero]; exact ho
  clear ho hgl
  go_wp2_with fail
  go_loopw [6] (fun i wr => ∃ k : Nat, k ≤ 64 ∧ i = .int .i64 k ∧ wr.ownsRow w.heap.size 5 1 (.slice (some ⟨g, 0, none⟩) 64 cap) 64 ((mixS y B k).map (Value.int .u8)) ∧ Below w.heap.size w wr) (fun i _ => 64 - (intOf i).toNat)
  case atStart => exact ⟨0, by omega, rfl, ho0, hB1⟩
  case round =>
    clear ho0 hB1
    obtain ⟨k, hkk, rfl, hown, hB⟩ := hrel
    by_cases hlt : k < 64
    · have hkb : k < B.length := by rw [HBL.out]; exact hlt
      have c1 := hown.cellAt k (by omega)
      rw [nth_at k (by rw [mixS_len]; exact hkb), mixS_nth y B k hkb] at c1
      have f1 := hown.frozenAt k
      have S := Lib.hid (mixS_succ y B k hkb)
      generalize nth B k = x at *
      clear hkb
      go_wp2_with fail
      go_roundw
      case rel =>
        refine ⟨k + 1, by omega, by go_num, ?_, hB.setCell hg _⟩
        rw [← S.out, List.map_set]
        exact (hown.stored k _).1
      case measure => simp [intOf]; omega
    · obtain rfl : k = 64 := by omega
      rw [HM.out] at hown
      go_wp2_with fail
      go_ret
      refine ⟨_, rfl, ?_, hB⟩
      have : M.length = 64 := by rw [← HM.out, mixS_len]; exact HBL.out
      rw [this]
      exact hown

end Go.Proofs.YtfobjdkpdeiidaaDoor
