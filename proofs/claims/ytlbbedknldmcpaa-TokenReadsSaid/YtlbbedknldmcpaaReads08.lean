/-
  TokenReads, walked.
-/
import Derived.Test.YtlbbedknldmcpaaTokD
import Derived.Test.YtlbbedknldmcpaaTokQ
import Derived.Test.YtlbbedknldmcpaaRTokB
import Derived.Test.YtlbbedknldmcpaaShaK
namespace Go.Proofs.Ytlbbedknldmcpaa
open Go.RowKit

theorem reads_both (bs : List Int) (hb : Byts bs) : ∃ (k : Nums) (g : List Int) (c : Int), g.length = 32 ∧
    (∀ (W : World) (v : Value), IsL W .u8 v bs → Calls Try.prog 4 #[v] W fun e w' => e = .returned (.tuple #[.agg (tcell k g).toArray, .int .i64 c]) ∧ Below W.heap.size W w') ∧
    (∀ (W : World) (v : Value), IsL W .u8 v bs → Calls Try.prog 5 #[v] W fun e w' => e = .returned (.tuple #[.agg (tcell k g).toArray, .int .i64 c]) ∧ Below W.heap.size W w') := by
  by_cases hl : bs.length = 52
  · obtain ⟨k, g, rfl, hg, _⟩ := tok_of_bytes hl hb
    exact ⟨k, g, 0, hg, fun W v h => tread_ok k hg W h, fun W v h => rread_ok k hg W h⟩
  · exact ⟨Nums.zero, zeroD, 12, z32, fun W v h => tread_bad W h hl, fun W v h => rread_bad W h hl⟩

set_option maxRecDepth 100000 in
set_option maxHeartbeats 6400000 in
theorem reads8_is (k : Nums) {g : List Int} (hg : g.length = 32) {v : Value} {bs : List Int} (w : World) (h1 : IsL w .u8 v bs) (hb : Byts bs) : Calls Try.prog 3 #[.agg (tcell k g).toArray, v] w fun e w' => e = .returned (.bool true) ∧ Below w.heap.size w w' := by
  obtain ⟨a0, c0, rfl, hr, _⟩ := id h1
  have i1 := hr.room
  have i2 := hr.most
  clear hr
  have hB : Below w.heap.size w (w.alloc (.cells (tcell k g).toArray 27)) := by go_grown
  by_cases hl : 200 < bs.length
  · have d1 : decide ((200 : Int) < (bs.length : Int)) = true := decide_eq_true (by omega)
    obtain ⟨V, hV⟩ : ∃ V, tcell k g = V := ⟨_, rfl⟩
    rw [hV] at hB ⊢
    clear hl hb h1 hV
    go_enter Try.func3, Try.ntmps3
    go_wp2_with fail
    go_returns
    exact ⟨rfl, hB⟩
  have d1 : decide ((200 : Int) < (bs.length : Int)) = false := decide_eq_false (by omega)
  obtain ⟨k2, g2, c, hg2, A, B⟩ := reads_both bs hb
  have HL := Lib.hid h1
  have WT := fun W => twrite_is k hg W
  have WR := fun W => rwrite_is k hg W
  obtain ⟨M, hM⟩ : ∃ M, k.msg ++ g = M := ⟨_, rfl⟩
  rw [hM] at WT WR
  have ST := Lib.hid (size_tok k hg)
  have SR := Lib.hid (size_tok k2 hg2)
  have LR := Lib.hid (len_tok Nums.zero k2 z32 hg2)
  have OR := Lib.hid (tcell_one k2 g2)
  have ER := eq_tok_self k2 hg2
  have hx : Box (w.alloc (.cells (tcell k g).toArray 27)) w.heap.size (tcell k g) := Box.newc rfl rfl
  obtain ⟨V, hV⟩ : ∃ V, tcell k g = V := ⟨_, rfl⟩
  obtain ⟨R, hR⟩ : ∃ R, tcell k2 g2 = R := ⟨_, rfl⟩
  rw [hV] at ST WT WR hx hB ⊢
  rw [hR] at SR LR OR ER A B
  have hcc := beq_self_eq_true c
  clear hM hV hR hg hg2 h1 hb hl
  go_enter Try.func3, Try.ntmps3
  go_wp2_with fail
  refine (A _ _ (HL.out.below hB)).mono ?_
  rintro e w1 ⟨rfl, hb1⟩
  have hx1 := hx.below hb1
  have hB1 := below_thru hB hb1
  have hs1 := hB1.size
  have hz1 := hx1.lt
  clear hx hB hb1
  go_upto_region 4 with (refine wpList_store_box (cs := R) rfl _ _ _ rfl (Box.newc (l := zeroT) rfl rfl) rfl rfl SR.out LR.out OR.out ?_; intro w2 hW2)
  have hB2 : Below w.heap.size w w2 := hW2.below _ _ hs1 (hB1.alloc hs1 _)
  have hx2 : Box w2 w.heap.size V := hW2.past _ _ (by omega) (hx1.alloc _)
  have hy2 := hW2.box
  have hz2 := hy2.lt
  clear hx1 hB1 hW2
  go_wp2_with fail
  refine (B _ _ (HL.out.below hB2)).mono ?_
  rintro e w3 ⟨rfl, hb3⟩
  have hx3 := hx2.below hb3
  have hy3 := hy2.below hb3
  have hB3 := below_thru hB2 hb3
  have hs3 := hB3.size
  have hz3 := hy3.lt
  have hz4 := hx3.lt
  clear hx2 hy2 hB2 hb3
  go_upto_region 5 with (refine wpList_store_box (cs := R) rfl _ _ _ rfl (Box.newc (l := zeroT) rfl rfl) rfl rfl SR.out LR.out OR.out ?_; intro w4 hW4)
  have hB4 : Below w.heap.size w w4 := hW4.below _ _ hs3 (hB3.alloc hs3 _)
  have hx4 : Box w4 w.heap.size V := hW4.past _ _ (by omega) (hx3.alloc _)
  have hy4 : Box w4 w1.heap.size R := hW4.past _ _ (by omega) (hy3.alloc _)
  have hu4 := hW4.box
  clear hx3 hy3 hB3 hW4
  have h4 := And.intro hx4 (And.intro hy4 hu4)
  clear hx4 hy4 hu4
  refine wp_region_held_drew (S := fun W => Box W w.heap.size V ∧ Box W w1.heap.size R ∧ Box W w3.heap.size R) (by kernel_rfl) ⟨h4.1.drew, h4.2.1.drew, h4.2.2.drew⟩ (fun _ => ?_)
  refine F_drew (F := fun W => wpAnyH _ _ _ _ _ _ _ _ W) ?_
  intro W0 hb0
  have hx0 := And.intro (h4.1.below hb0) (And.intro (h4.2.1.below hb0) (h4.2.2.below hb0)); have hB0 := below_thru hB4 hb0
  clear h4 hB4 hb0
  refine takeH 0 22 (v := .agg V.toArray) rfl (by rfl) (by kernel_rfl) (by kernel_rfl) (by kernel_rfl) (fun _ _ _ h => h) (yieldsIf_load_mid (by rfl) _ _ rfl _ _ rfl V _ (fun wq hq => hq.1.range) Try.underlying27 rfl ST.out) (hx0) ?_
  try simp only [Act.put, List.setIfInBounds_toArray, List.set_cons_zero, List.set_cons_succ]
  refine takeH 2 24 (v := .agg V.toArray) rfl (by rfl) (by kernel_rfl) (by kernel_rfl) (by kernel_rfl) (fun _ _ _ h => h) (yieldsIf_load_mid (by rfl) _ _ rfl _ _ rfl V _ (fun wq hq => hq.1.range) Try.underlying27 rfl ST.out) (hx0) ?_
  try simp only [Act.put, List.setIfInBounds_toArray, List.set_cons_zero, List.set_cons_succ]
  refine wpAnyH_ready (rs := [1]) (by kernel_rfl) (by simp) (AllReadyH.cons rfl (fun K hK => ?_) AllReadyH.nil)
  go_simp
  refine (WT _).mono ?_
  rintro e W1 ⟨va, rfl, oa, hb1⟩
  have la := Lib.hid (IsL.own oa rfl)
  clear oa
  have hx1 := And.intro (Box.below hx0.1 hb1) (And.intro (Box.below hx0.2.1 hb1) (Box.below hx0.2.2 hb1)); have hB1 := below_thru hB0 hb1
  refine hK.out _ _ hx1 (fun _ => ?_); clear hK K
  refine wpAnyH_ready (rs := [3]) (by kernel_rfl) (by simp) (AllReadyH.cons rfl (fun K hK => ?_) AllReadyH.nil)
  go_simp
  refine (WR _).mono ?_
  rintro e W2 ⟨vb, rfl, ob, hb2⟩
  have lb := Lib.hid (IsL.own ob rfl)
  clear ob
  have hx2 := And.intro (Box.below hx1.1 hb2) (And.intro (Box.below hx1.2.1 hb2) (Box.below hx1.2.2 hb2)); have hB2 := below_thru hB1 hb2
  have la_2 := Lib.hid (la.out.below hb2)
  refine hK.out _ _ hx2 (fun _ => ?_); clear hK K
  refine wpAnyH_ready (rs := [4]) (by kernel_rfl) (by simp) (AllReadyH.cons rfl (fun K hK => ?_) AllReadyH.nil)
  go_simp
  refine (sameb_tt _ la_2.out lb.out).mono ?_
  rintro e W3 ⟨rfl, hb3⟩
  have hx3 := And.intro (Box.below hx2.1 hb3) (And.intro (Box.below hx2.2.1 hb3) (Box.below hx2.2.2 hb3)); have hB3 := below_thru hB2 hb3
  refine hK.out _ _ hx3 (fun _ => ?_); clear hK K
  refine takeH 5 27 (v := ?vr5_4) rfl (by rfl) (by kernel_rfl) (by kernel_rfl) (by kernel_rfl) (fun _ _ _ h => h) (Or.inl ⟨by rfl, ?_⟩) (hx3) ?_
  rotate_left
  · intro wq hSq
    go_simp
    exact rfl
  try simp only [Act.put, List.setIfInBounds_toArray, List.set_cons_zero, List.set_cons_succ]
  refine takeH 6 28 (v := .agg R.toArray) rfl (by rfl) (by kernel_rfl) (by kernel_rfl) (by kernel_rfl) (fun _ _ _ h => h) (yieldsIf_load_mid (by rfl) _ _ rfl _ _ rfl R _ (fun wq hq => hq.2.1.range) Try.underlying27 rfl SR.out) (hx3) ?_
  try simp only [Act.put, List.setIfInBounds_toArray, List.set_cons_zero, List.set_cons_succ]
  refine takeH 7 29 (v := .agg R.toArray) rfl (by rfl) (by kernel_rfl) (by kernel_rfl) (by kernel_rfl) (fun _ _ _ h => h) (yieldsIf_load_mid (by rfl) _ _ rfl _ _ rfl R _ (fun wq hq => hq.2.2.range) Try.underlying27 rfl SR.out) (hx3) ?_
  try simp only [Act.put, List.setIfInBounds_toArray, List.set_cons_zero, List.set_cons_succ]
  refine takeH 8 30 (v := ?vr8_5) rfl (by rfl) (by kernel_rfl) (by kernel_rfl) (by kernel_rfl) (fun _ _ _ h => h) (Or.inl ⟨by rfl, ?_⟩) (hx3) ?_
  rotate_left
  · intro wq hSq
    go_simp
    exact rfl
  try simp only [Act.put, List.setIfInBounds_toArray, List.set_cons_zero, List.set_cons_succ]
  refine takeH 9 31 (v := ?vr9_6) rfl (by rfl) (by kernel_rfl) (by kernel_rfl) (by kernel_rfl) (fun _ _ _ h => h) (Or.inl ⟨by rfl, ?_⟩) (hx3) ?_
  rotate_left
  · intro wq hSq
    go_simp
    exact rfl
  try simp only [Act.put, List.setIfInBounds_toArray, List.set_cons_zero, List.set_cons_succ]
  refine takeH 10 32 (v := ?vr10_7) rfl (by rfl) (by kernel_rfl) (by kernel_rfl) (by kernel_rfl) (fun _ _ _ h => h) (Or.inl ⟨by rfl, ?_⟩) (hx3) ?_
  rotate_left
  · intro wq hSq
    go_simp
    exact rfl
  try simp only [Act.put, List.setIfInBounds_toArray, List.set_cons_zero, List.set_cons_succ]
  refine takeH 11 33 (v := ?vr11_8) rfl (by rfl) (by kernel_rfl) (by kernel_rfl) (by kernel_rfl) (fun _ _ _ h => h) (Or.inl ⟨by rfl, ?_⟩) (hx3) ?_
  rotate_left
  · intro wq hSq
    go_simp
    exact rfl
  try simp only [Act.put, List.setIfInBounds_toArray, List.set_cons_zero, List.set_cons_succ]
  refine takeH 12 34 (v := ?vr12_9) rfl (by rfl) (by kernel_rfl) (by kernel_rfl) (by kernel_rfl) (fun _ _ _ h => h) (Or.inl ⟨by rfl, ?_⟩) (hx3) ?_
  rotate_left
  · intro wq hSq
    go_simp
    exact rfl
  try simp only [Act.put, List.setIfInBounds_toArray, List.set_cons_zero, List.set_cons_succ]
  refine takeH 13 35 (v := ?vr13_10) rfl (by rfl) (by kernel_rfl) (by kernel_rfl) (by kernel_rfl) (fun _ _ _ h => h) (Or.inl ⟨by rfl, ?_⟩) (hx3) ?_
  rotate_left
  · intro wq hSq
    go_simp
    exact rfl
  try simp only [Act.put, List.setIfInBounds_toArray, List.set_cons_zero, List.set_cons_succ]
  refine takeH 14 36 (v := ?vr14_11) rfl (by rfl) (by kernel_rfl) (by kernel_rfl) (by kernel_rfl) (fun _ _ _ h => h) (Or.inl ⟨by rfl, ?_⟩) (hx3) ?_
  rotate_left
  · intro wq hSq
    go_simp
    exact rfl
  try simp only [Act.put, List.setIfInBounds_toArray, List.set_cons_zero, List.set_cons_succ]
  refine takeH 15 4 (v := ?vr15_12) rfl (by rfl) (by kernel_rfl) (by kernel_rfl) (by kernel_rfl) (fun _ _ _ h => h) (Or.inl ⟨by rfl, ?_⟩) (hx3) ?_
  rotate_left
  · intro wq hSq
    go_simp
    exact rfl
  try simp only [Act.put, List.setIfInBounds_toArray, List.set_cons_zero, List.set_cons_succ]
  refine wpAnyH_done (by kernel_rfl) ?_ _
  go_wp2_with fail
  go_returns
  exact ⟨rfl, hB3⟩


end Go.Proofs.Ytlbbedknldmcpaa
