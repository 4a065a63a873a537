/-
  The reference of layer 6: a key's block, the block mixed.
  The reference of layer 6: pads, the inner and the outer sum, the tag.
  The reference of layer 6: the inner and the outer sum, the tag.
-/
import Derived.Test.YtofjpeplgagihaaDoorGM1
import Derived.Test.YtofjpeplgagihaaDoorGR1

namespace Go.Proofs.YtofjpeplgagihaaDoor
open Go.RowKit

theorem own_sl {w : World} {B e : Nat} {v : Value} {n : Nat} {l : List Value} (h : w.ownsRow B e 1 v n l) : ∃ a c, v = .slice a n c ∧ n ≤ c ∧ c ≤ 9223372036854775807 := by
  rcases h.2 with ⟨h', h0⟩ | ⟨g', cap', cur, h', _, hg, h1, h2, _⟩
  · subst h0
    exact ⟨none, 0, h', by omega, by omega⟩
  · exact ⟨_, _, h', h1, by unfold maxLen at h2; omega⟩
def padZ (X : List Int) (k : Nat) : List Int := X ++ List.replicate k 0
theorem padZ_len (X : List Int) (k : Nat) : (padZ X k).length = X.length + k := by simp [padZ]
theorem padZ_succ (X : List Int) (k : Nat) : padZ X (k + 1) = padZ X k ++ [0] := by simp [padZ, List.replicate_succ']

set_option maxRecDepth 100000 in
set_option maxHeartbeats 1600000 in
theorem rblock_short {v : Value} {K B : List Int} (w : World) (hi : Hid (IsL w .u8 v K)) (hl : K.length ≤ 64) (hB : Hid (blk K = B)) :
    Calls Tryd.prog 71 #[v] w fun e w' => ∃ u, e = .returned u ∧ OwnL w w' u B := by
  obtain ⟨a0, c0, rfl, hin0, h0⟩ := id hi.out
  have m1 := hin0.room
  have m2 := hin0.most
  clear hin0 h0
  obtain ⟨ti, hin, hz0, hz1, hz2⟩ := info8
  obtain ⟨X, hXe⟩ : ∃ X, K = X := ⟨_, rfl⟩
  have HXB := Lib.hid (show padZ X (64 - X.length) = B by rw [← hXe, ← hB.out, blk_short hl]; rfl)
  have HX0 := Lib.hid (show padZ X 0 = [] ++ K by rw [← hXe]; simp [padZ])
  have hXl : X.length ≤ 64 := by rw [← hXe]; exact hl
  clear hXe hB
  go_enter Tryd.func71, Tryd.ntmps71
  go_upto_region 2 with (at_builtin; refine wpList_append_built rfl _ _ 62 rfl 5 ti (.int .u8 0) 1 .u8 Tryd.underlying62 hin hz0 hz1 hz2 rfl [] K _ (.slice a0 K.length c0) _ _ _ rfl rfl rfl rfl rfl rfl hi.out (by unfold maxLen; simp <;> omega) (by simp <;> omega) ?_; intro va wa howa hba)
  go_wp2_with fail
  go_loopw [3] (fun u wr => ∃ k : Nat, k ≤ 64 - X.length ∧ wr.ownsRow w.heap.size 5 1 u (padZ X k).length ((padZ X k).map (Value.int .u8)) ∧ Below w.heap.size w wr) (fun u _ => 64 - lenOf u)
  case atStart => exact ⟨0, by omega, by rw [HX0.out]; exact howa, hba⟩
  case round =>
    clear howa hba
    obtain ⟨k, hkk, hown, hB⟩ := hrel
    have LK := padZ_len X k
    obtain ⟨a, cp, rfl, hcp, hcm⟩ := own_sl hown
    have hsz := hB.size
    have LKI : ((padZ X k).length : Int) = (X.length : Int) + (k : Int) := by omega
    have HLK := Lib.hid LK
    by_cases hlt : k < 64 - X.length
    · have S := Lib.hid (padZ_succ X k)
      have d0 : ((X.length : Int) + (k : Int) < 64) := by omega
      generalize hn : (padZ X k).length = n at *
      have HN := Lib.hid hn
      clear hn
      go_wp2_with (at_builtin; refine wpList_append_onto rfl _ _ 62 rfl w.heap.size 5 ti (.int .u8 0) 1 .u8 Tryd.underlying62 hin hz0 hz1 hz2 rfl _ (padZ X k) [0] _ rfl rfl (by rw [HN.out]; exact World.ownsRow.alloc hown _) (IsL.built [0] rfl rfl rfl rfl (by simp)) (by rw [HN.out]; unfold maxLen; simp <;> omega) (by rw [HN.out]; simp <;> omega) (by simp; omega) ?_; intro va wa howa hba)
      go_roundw
      case rel => exact ⟨k + 1, by omega, by rw [S.out]; exact howa, (hB.alloc hsz _).trans hba⟩
      case measure =>
        rw [List.length_append, HN.out] at howa
        obtain ⟨a', cp', rfl, _, _⟩ := own_sl howa
        simp [lenOf]; omega
    · have hk2 : X.length + k = 64 := by omega
      have HB2 := Lib.hid (show padZ X k = B by rw [← HXB.out, ← show k = 64 - X.length by omega])
      rw [LK, hk2] at hown ⊢
      clear LKI HLK LK
      go_wp2_with fail
      go_ret
      rw [HB2.out] at hown
      refine ⟨_, rfl, ?_, hB⟩
      have : B.length = 64 := by rw [← HB2.out, padZ_len]; exact hk2
      rw [this]
      exact hown

set_option maxRecDepth 100000 in
set_option maxHeartbeats 1600000 in
theorem rblock_long {v : Value} {K B : List Int} (w : World) (hi : Hid (IsL w .u8 v K)) (hl : 64 < K.length) (hl2 : K.length ≤ 128000) (hk : Hid (bytesL K)) (hB : Hid (blk K = B)) :
    Calls Tryd.prog 71 #[v] w fun e w' => ∃ u, e = .returned u ∧ OwnL w w' u B := by
  obtain ⟨a0, c0, rfl, hin0, h0⟩ := id hi.out
  have m1 := hin0.room
  have m2 := hin0.most
  clear hin0 h0
  obtain ⟨ti, hin, hz0, hz1, hz2⟩ := info8
  obtain ⟨X, hXe⟩ : ∃ X, shaOf K = X := ⟨_, rfl⟩
  have hXl : X.length = 32 := by rw [← hXe, shaOf_len]
  have HXB := Lib.hid (show padZ X (64 - X.length) = B by rw [← hXe, ← hB.out, blk_long hl rfl]; rfl)
  have HX0 := Lib.hid (show padZ X 0 = [] ++ X by simp [padZ])
  have HXE := Lib.hid hXe
  have I32 := Lib.hid (size_dig hXl)
  have H32 := Lib.hid (len_dig hXl)
  have HXL := Lib.hid hXl
  clear hXe hB
  go_enter Tryd.func71, Tryd.ntmps71
  go_upto_region 2 with (at_builtin; refine wpList_append_built rfl _ _ 62 rfl 5 ti (.int .u8 0) 1 .u8 Tryd.underlying62 hin hz0 hz1 hz2 rfl [] K _ (.slice a0 K.length c0) _ _ _ rfl rfl rfl rfl rfl rfl hi.out (by unfold maxLen; simp <;> omega) (by simp <;> omega) ?_; intro va wa howa hba)
  go_wp2_with fail
  refine (rof_is _ (Lib.hid (IsL.below hi.out hba)) hl2 hk HXE).mono ?_
  rintro e w1 ⟨rfl, hb⟩
  have hB1 : Below w.heap.size w w1 := below_thru hba hb
  have hs1 := hB1.size
  clear hb hba howa
  go_upto_region 4 with (refine wpList_store_box (cs := X.map (Value.int .u8)) rfl _ _ _ rfl (Box.newc (l := zero32) rfl rfl) rfl rfl I32.out H32.out (oneCell_ints _) ?_; intro w2 hW)
  have hB2 : Below w.heap.size w w2 := hW.below _ _ hs1 (hB1.alloc hs1 _)
  have JX := Lib.hid (IsL.box 32 HXL.out hW.box (by omega))
  have hs2 := hB2.size
  clear hW hB1
  go_upto_region 5 with (at_builtin; refine wpList_append_built rfl _ _ 62 rfl 5 ti (.int .u8 0) 1 .u8 Tryd.underlying62 hin hz0 hz1 hz2 rfl [] X _ (.slice (some ⟨w1.heap.size, 0, none⟩) 32 32) _ _ _ rfl rfl rfl rfl rfl rfl JX.out (by unfold maxLen; simp <;> omega) (by simp <;> omega) ?_; intro vb wb howb hbb)
  have hown2 := owns_mono howb hs2
  have hbelow2 := below_thru hB2 hbb
  clear howb hbb hB2 JX
  go_loopw [3] (fun u wr => ∃ k : Nat, k ≤ 64 - X.length ∧ wr.ownsRow w.heap.size 5 1 u (padZ X k).length ((padZ X k).map (Value.int .u8)) ∧ Below w.heap.size w wr) (fun u _ => 64 - lenOf u)
  case atStart => exact ⟨0, by omega, by rw [HX0.out]; exact hown2, hbelow2⟩
  case round =>
    clear hown2 hbelow2
    obtain ⟨k, hkk, hown, hB⟩ := hrel
    have LK := padZ_len X k
    obtain ⟨a, cp, rfl, hcp, hcm⟩ := own_sl hown
    have hsz := hB.size
    have LKI : ((padZ X k).length : Int) = (X.length : Int) + (k : Int) := by omega
    have HLK := Lib.hid LK
    by_cases hlt : k < 64 - X.length
    · have S := Lib.hid (padZ_succ X k)
      have d0 : ((X.length : Int) + (k : Int) < 64) := by omega
      generalize hn : (padZ X k).length = n at *
      have HN := Lib.hid hn
      clear hn
      go_wp2_with (at_builtin; refine wpList_append_onto rfl _ _ 62 rfl w.heap.size 5 ti (.int .u8 0) 1 .u8 Tryd.underlying62 hin hz0 hz1 hz2 rfl _ (padZ X k) [0] _ rfl rfl (by rw [HN.out]; exact World.ownsRow.alloc hown _) (IsL.built [0] rfl rfl rfl rfl (by simp)) (by rw [HN.out]; unfold maxLen; simp <;> omega) (by rw [HN.out]; simp <;> omega) (by simp; omega) ?_; intro va wa howa hba)
      go_roundw
      case rel => exact ⟨k + 1, by omega, by rw [S.out]; exact howa, (hB.alloc hsz _).trans hba⟩
      case measure =>
        rw [List.length_append, HN.out] at howa
        obtain ⟨a', cp', rfl, _, _⟩ := own_sl howa
        simp [lenOf]; omega
    · have hk2 : X.length + k = 64 := by omega
      have HB2 := Lib.hid (show padZ X k = B by rw [← HXB.out, ← show k = 64 - X.length by omega])
      rw [LK, hk2] at hown ⊢
      clear LKI HLK LK
      go_wp2_with fail
      go_ret
      rw [HB2.out] at hown
      refine ⟨_, rfl, ?_, hB⟩
      have : B.length = 64 := by rw [← HB2.out, padZ_len]; exact hk2
      rw [this]
      exact hown

theorem rblock_is {v : Value} {K B : List Int} (w : World) (hi : Hid (IsL w .u8 v K)) (hl : K.length ≤ 128000) (hk : Hid (bytesL K)) (hB : Hid (blk K = B)) :
    Calls Tryd.prog 71 #[v] w fun e w' => ∃ u, e = .returned u ∧ OwnL w w' u B := by
  rcases Nat.lt_or_ge 64 K.length with q | q
  · exact rblock_long w hi q hl hk hB
  · exact rblock_short w hi q hB

set_option maxRecDepth 100000 in
set_option maxHeartbeats 1600000 in
theorem rmixed_is {v : Value} {K M : List Int} (y : Int) (w : World) (hi : Hid (IsL w .u8 v K)) (hl : K.length ≤ 128000) (hk : Hid (bytesL K)) (hM : Hid (mixL y (blk K) = M)) :
    Calls Tryd.prog 51 #[v, .int .u8 y] w fun e w' => ∃ u, e = .returned u ∧ OwnL w w' u M := by
  obtain ⟨B, hB⟩ : ∃ B, blk K = B := ⟨_, rfl⟩
  have hBl : B.length = 64 := by rw [← hB, blk_len]
  have HB := Lib.hid hB
  have HBL := Lib.hid hBl
  have HM := Lib.hid (show mixS y B 64 = M by rw [mixS_all _ _ _ (by omega), ← hB]; exact hM.out)
  clear hB hBl hM
  go_enter Tryd.func51, Tryd.ntmps51
  go_wp2_with fail
  refine (rblock_is _ hi hl hk HB).mono ?_
  rintro e w1 ⟨u, rfl, ho, hB1⟩
  rw [HBL.out] at ho
  obtain ⟨g, cap, rfl, hg, hgl⟩ := ho.form (by omega)
  obtain ⟨_, cap', e', hcp, hcm⟩ := own_sl ho
  obtain rfl : cap = cap' := by injection e'
  clear e'
  have ho0 : w1.ownsRow w.heap.size 5 1 (.slice (some ⟨g, 0, none⟩) 64 cap) 64 ((mixS y B 0).map (Value.int .u8)) := by rw [mixS_zero]; exact ho
  clear ho hgl
  go_wp2_with fail
  go_loopw [6] (fun i wr => ∃ k : Nat, k ≤ 64 ∧ i = .int .i64 k ∧ wr.ownsRow w.heap.size 5 1 (.slice (some ⟨g, 0, none⟩) 64 cap) 64 ((mixS y B k).map (Value.int .u8)) ∧ Below w.heap.size w wr) (fun i _ => 64 - (intOf i).toNat)
  case atStart => exact ⟨0, by omega, rfl, ho0, hB1⟩
  case round =>
    clear ho0 hB1
    obtain ⟨k, hkk, rfl, hown, hB⟩ := hrel
    by_cases hlt : k < 64
    · have hkb : k < B.length := by rw [HBL.out]; exact hlt
      have c1 := hown.cellAt k (by omega)
      rw [nth_at k (by rw [mixS_len]; exact hkb), mixS_nth y B k hkb] at c1
      have f1 := hown.frozenAt k
      have S := Lib.hid (mixS_succ y B k hkb)
      generalize nth B k = x at *
      clear hkb
      go_wp2_with fail
      go_roundw
      case rel =>
        refine ⟨k + 1, by omega, by go_num, ?_, hB.setCell hg _⟩
        rw [← S.out, List.map_set]
        exact (hown.stored k _).1
      case measure => simp [intOf]; omega
    · obtain rfl : k = 64 := by omega
      rw [HM.out] at hown
      go_wp2_with fail
      go_ret
      refine ⟨_, rfl, ?_, hB⟩
      have : M.length = 64 := by rw [← HM.out, mixS_len]; exact HBL.out
      rw [this]
      exact hown

end Go.Proofs.YtofjpeplgagihaaDoor

namespace Go.Proofs.YtofjpeplgagihaaDoor
open Go.RowKit

/-- append onto a row of the call's own, as a step of a region that draws its order. -/
theorem step_append_own {P : Program} {ops : Array Oper} {o : Oper} {a : Act} {w : World} {K : Act → World → Prop} {Q : Exit → Act → World → Prop} {E : Prop} (hgd : o.guard = none) (s x : Operand) (t : TypeId)
    (ho : o.op = .call { callee := .builtin .append, args := #[s, x], argTypes := #[t, t] })
    (base : Nat) (e : TypeId) (i : TypeInfo) (z : Value) (bytes : Nat) (k : IntKind) (ht : P.underlying t = some (.slice e)) (hi : P.info? e = some i) (hz : i.zero = some z)
    (hsize : i.size = 1) (hby : i.bytes = bytes) (hzs : z.cells.size = 1)
    (v : Value) (ys xs : List Int) (v2 : Value) (hs : a.eval s = v) (hx : a.eval x = v2) (hown : w.ownsRow base e 1 v ys.length (ys.map (Value.int k))) (hin : IsL w k v2 xs)
    (h63 : ys.length + xs.length ≤ maxLen) (hbytes : (ys.length + xs.length) * bytes ≤ 140737488355328) (hbase : base ≤ w.heap.size)
    (h : ∀ v' w', w'.ownsRow base e 1 v' (ys ++ xs).length ((ys ++ xs).map (Value.int k)) → Below base w w' → K (a.put o.dst v') w') : if Region.wanted o (yielded ops a.tmps) = true then Oper.wp P o a w K Q else E := by
  rw [if_pos (by simp [Region.wanted, hgd])]
  obtain ⟨a2, c2, rfl, hi2, h02⟩ := hin
  refine wp_append_ints s x t ho base e i z bytes k ht hi hz hsize hby hzs v ys.length _ hs hown a2 c2 xs hx hi2 h02 h63 hbytes hbase (fun v' w' h1 h2 => h v' w' ?_ ?_)
  · rw [List.length_append, List.map_append]
    exact h1
  · exact (Below.refl _ w).grown h2 hbase (own_block hown)

/-- The first k numbers of a list over zeros. -/
def overZ (P : List Int) (k : Nat) : List Int := P.take k ++ List.replicate (64 - k) 0
theorem overZ_zero (P : List Int) : overZ P 0 = zeros64 := by simp [overZ, zeros64]
theorem overZ_all {P : List Int} (h : P.length = 64) : overZ P 64 = P := by
  unfold overZ
  rw [List.take_of_length_le (by omega)]
  simp
theorem overZ_len {P : List Int} (h : P.length = 64) (k : Nat) (hk : k ≤ 64) : (overZ P k).length = 64 := by
  unfold overZ
  rw [List.length_append, List.length_take, List.length_replicate]
  omega
theorem overZ_succ {P : List Int} (h : P.length = 64) (k : Nat) (hk : k < 64) : (overZ P k).set k (nth P k) = overZ P (k + 1) := by
  have hl : (P.take k).length = k := by rw [List.length_take]; omega
  have hn : nth P k = P[k]'(by omega) := by
    unfold nth
    rw [List.getD_eq_getElem?_getD, List.getElem?_eq_getElem (by omega), Option.getD_some]
  unfold overZ
  rw [List.set_append_right _ _ (by omega), hl, Nat.sub_self, show 64 - k = (64 - (k + 1)) + 1 by omega, List.replicate_succ, List.set_cons_zero, List.take_succ_eq_append_getElem (by omega), hn, List.append_assoc]
  rfl
end Go.Proofs.YtofjpeplgagihaaDoor

namespace Go.Proofs.YtofjpeplgagihaaDoor
open Go.RowKit

theorem F_world2 {F J J2 J3 : World → Prop} {w : World} (h1 : J w) (h2 : J2 w) (h3 : J3 w) (h : ∀ W, J W → J2 W → J3 W → F W) : F w := h _ h1 h2 h3

set_option maxRecDepth 100000 in
set_option maxHeartbeats 1600000 in
theorem rtag_is {v v2 : Value} {K xs D : List Int} (w : World) (hi : Hid (IsL w .u8 v K)) (h2 : Hid (IsL w .u8 v2 xs)) (hl : K.length ≤ 200) (hl2 : xs.length ≤ 127936) (hk : Hid (bytesL K)) (hx : Hid (bytesL xs)) (hD : Hid (tagL K xs = D)) :
    Calls Tryd.prog 36 #[v, v2] w fun e w' => e = .returned (av D) ∧ Below w.heap.size w w' := by
  obtain ⟨ti, hin, hz0, hz1, hz2⟩ := info8
  obtain ⟨P, hPe⟩ : ∃ P, padI K = P := ⟨_, rfl⟩
  have HP := Lib.hid (show mixL 54 (blk K) = P from hPe)
  have HPL := Lib.hid (show P.length = 64 by rw [← hPe, padI_len])
  have HPB := Lib.hid (show bytesL (P ++ xs) by rw [← hPe]; exact (padI_bytes hk.out).append hx.out)
  have HSL := Lib.hid (show (P ++ xs).length ≤ 128000 by rw [List.length_append, ← hPe, padI_len]; omega)
  obtain ⟨E, hE⟩ : ∃ E, innerL K xs = E := ⟨_, rfl⟩
  have HE := Lib.hid (show shaOf (P ++ xs) = E by rw [← hE, ← hPe]; rfl)
  have hdl : E.length = 32 := by rw [← hE]; exact shaOf_len _
  have hdb : bytesL E := by rw [← hE]; exact shaOf_bytes _
  obtain ⟨Q, hQe⟩ : ∃ Q, padO K = Q := ⟨_, rfl⟩
  have HQ := Lib.hid (show mixL 92 (blk K) = Q from hQe)
  have HQL := Lib.hid (show Q.length = 64 by rw [← hQe, padO_len])
  have HQB := Lib.hid (show bytesL (Q ++ E) by rw [← hQe]; exact (padO_bytes hk.out).append hdb)
  have HQS := Lib.hid (show (Q ++ E).length ≤ 128000 by rw [List.length_append, ← hQe, padO_len, hdl]; omega)
  have HD := Lib.hid (show shaOf (Q ++ E) = D by rw [← hD.out, ← hQe, ← hE]; rfl)
  have hDl : D.length = 32 := by rw [← HD.out]; exact shaOf_len _
  have I32 := Lib.hid (size_dig hDl)
  have H32 := Lib.hid (len_dig hDl)
  have IE := Lib.hid (size_dig hdl)
  have H3E := Lib.hid (len_dig hdl)
  have HDL := Lib.hid hdl
  clear hPe hQe hE hdl hdb hDl hD
  go_enter Tryd.func36, Tryd.ntmps36
  go_wp2_with fail
  refine (rmixed_is 54 _ (Lib.hid (IsL.alloc hi.out _)) (by omega) hk HP).mono ?_
  rintro e w1 ⟨u1, rfl, ho, hb⟩
  have hB1 : Below w.heap.size w w1 := below_thru (by go_grown) hb
  have hr1 : Box w1 w.heap.size zero32 := Box.below (Box.newc rfl rfl) hb
  have ho1 := owns_mono (B' := w.heap.size + 1) ho (by simp)
  have hs1 := hB1.size
  clear ho hb
  go_wp2_with (at_builtin; refine wpList_append_onto rfl _ _ 62 rfl (w.heap.size + 1) 5 ti (.int .u8 0) 1 .u8 Tryd.underlying62 hin hz0 hz1 hz2 rfl u1 P xs _ rfl rfl ho1 (h2.out.below hB1) (by have := HPL.out; unfold maxLen; omega) (by have := HPL.out; omega) hr1.lt ?_; intro va w2 howa hba)
  have hB2 : Below w.heap.size w w2 := hB1.trans (hba.mono (by omega))
  have hr2 : Box w2 w.heap.size zero32 := hr1.keepB hba (by omega)
  have HI := Lib.hid (IsL.own howa rfl)
  clear howa hba hB1 ho1 hr1
  refine (rof_is _ HI HSL.out HPB HE).mono ?_
  rintro e w3 ⟨rfl, hb⟩
  have hB3 := below_thru hB2 hb
  have hr3 := hr2.below hb
  have hs3 := hB3.size
  have hz3 := hr3.lt
  clear hb hB2 hr2 HI
  go_upto_region 2 with (refine wpList_store_box (cs := E.map (Value.int .u8)) rfl _ _ _ rfl (Box.newc (l := zero32) rfl rfl) rfl rfl IE.out H3E.out (oneCell_ints _) ?_; intro w4 hW)
  have hB9 : Below w.heap.size w w4 := hW.below _ _ hs3 (hB3.alloc hs3 _)
  have hr9 : Box w4 w.heap.size zero32 := hW.past _ _ (by omega) (hr3.alloc _)
  have hd9 := hW.box
  clear hW hB3 hr3
  go_upto_region 2 with fail
  refine wp_region_held_drew (S := fun w' => Box w' (w3.heap.size) (E.map (Value.int .u8))) (by kernel_rfl) (hd9.drew) (fun _ => ?_)
  refine F_drew (F := fun W => wpAnyH _ _ _ _ _ _ _ _ W) ?_
  intro W0 hb0
  have hd0 := hd9.below hb0; have hr0 := hr9.below hb0; have hB0 := below_thru hB9 hb0
  clear hd9 hr9 hB9 hb0
  refine takeH 0 11 (v := ?va0_1) rfl (by rfl) (by kernel_rfl) (by kernel_rfl) (by kernel_rfl) (fun _ _ _ h => h) (Or.inl ⟨by rfl, ?_⟩) (hd0) ?_
  rotate_left
  · intro wq hSq
    go_simp
    exact rfl
  try simp only [Act.put, List.setIfInBounds_toArray, List.set_cons_zero, List.set_cons_succ]
  refine takeH 2 13 (v := ?va2_2) rfl (by rfl) (by kernel_rfl) (by kernel_rfl) (by kernel_rfl) (fun _ _ _ h => h) (Or.inl ⟨by rfl, ?_⟩) (hd0) ?_
  rotate_left
  · intro wq hSq
    go_simp
    exact rfl
  try simp only [Act.put, List.setIfInBounds_toArray, List.set_cons_zero, List.set_cons_succ]
  refine wpAnyH_ready (rs := [1]) (by kernel_rfl) (by simp) (AllReadyH.cons rfl (fun K hK => ?_) AllReadyH.nil)
  go_simp
  refine (rmixed_is 92 _ (Lib.hid (IsL.below hi.out hB0)) (by omega) hk HQ).mono ?_
  rintro e W3 ⟨u3, rfl, ho3, hb3⟩
  have sz3 := Below.size hb3
  have hd3 := Box.below hd0 hb3; have hr3 := Box.below hr0 hb3; have hB3 := below_thru hB0 hb3
  refine hK.out _ _ (hd3) (fun _ => ?_); clear hK K
  refine wpAnyH_ready (rs := [3]) (by kernel_rfl) (by simp) (AllReadyH.cons rfl (fun K hK => ?_) AllReadyH.nil)
  have dl4 := Box.lt hd0; have rl4 := Box.lt hr0
  refine step_append_own rfl _ _ 62 (by rfl) W0.heap.size 5 ti (.int .u8 0) 1 .u8 Tryd.underlying62 hin hz0 hz1 hz2 rfl u3 Q E _ (by rfl) (by rfl) ho3 (IsL.box 32 HDL.out hd3 (by omega)) (by have := HQL.out; have := HDL.out; unfold maxLen; omega) (by have := HQL.out; have := HDL.out; omega) sz3 ?_
  intro v4 W4 own4 hb4
  have hd4 := Box.keepB hd3 hb4 dl4; have hr4 := Box.keepB hr3 hb4 rl4; have hB4 := Below.trans hB3 (Below.mono hb4 (Below.size hB0))
  have HI4 := Lib.hid (IsL.own own4 rfl)
  refine hK.out _ _ (hd4) (fun _ => ?_); clear hK K
  refine wpAnyH_ready (rs := [4]) (by kernel_rfl) (by simp) (AllReadyH.cons rfl (fun K hK => ?_) AllReadyH.nil)
  go_simp
  refine (rof_is _ HI4 HQS.out HQB HD).mono ?_
  rintro e W5 ⟨rfl, hb5⟩
  have hd5 := Box.below hd4 hb5; have hr5 := Box.below hr4 hb5; have hB5 := below_thru hB4 hb5
  refine hK.out _ _ (hd5) (fun _ => ?_); clear hK K
  refine wpAnyH_ready (rs := [5]) (by kernel_rfl) (by simp) (AllReadyH.cons rfl (fun K hK => ?_) AllReadyH.nil)
  refine step_store_box0 (cs := D.map (Value.int .u8)) rfl rfl _ _ _ rfl hr5 rfl rfl I32.out H32.out (oneCell_ints _) ?_
  intro W6 hW6
  have hd6 := hW6.past _ _ (by omega) hd5; have hr6 := hW6.box; have hB6 := hW6.below _ _ (by omega) hB5
  refine hK.out _ _ (hd6) (fun _ => ?_); clear hK K
  refine wpAnyH_done (by kernel_rfl) ?_ _
  go_wp2_with fail
  exact bodyPost_ret (v := av D) (results_box Tryd.results36 hr6 rfl Tryd.underlying23 rfl I32.out) rfl ⟨rfl, hB6⟩

end Go.Proofs.YtofjpeplgagihaaDoor
