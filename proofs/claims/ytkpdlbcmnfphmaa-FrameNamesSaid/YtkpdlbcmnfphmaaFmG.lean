/-
  Package frame, walked: message, Before, requestBytes.
-/
import Derived.Test.YtkpdlbcmnfphmaaFmF
import Derived.Test.YtkpdlbcmnfphmaaFmD
namespace Go.Proofs.Ytkpdlbcmnfphmaa
open Go.RowKit

set_option maxRecDepth 100000 in
set_option maxHeartbeats 1600000 in
theorem msg_is (c : Cmd) (hw : c.wd) (w : World) : Calls Try.prog 27 #[.agg (ccell c).toArray] w (GivesL c.msg w) := by
  have SV := Lib.hid (size_cmd c)
  have MR := fun W => mrow_is c hw W
  have WR := fun (W : World) (v : Value) (h : IsR LF W v (crow c)) => fwrite_is W h
  rw [rowV_ok (crow_e hw), crow_e hw, crow_b hw] at WR
  obtain ⟨V, hV⟩ : ∃ V, ccell c = V := ⟨_, rfl⟩
  rw [hV] at SV MR ⊢
  clear hV hw
  go_enter Try.func27, Try.ntmps27
  go_upto_region 1 with fail
  refine F_gen (F := fun W => Code.wp _ _ _ _ W) (J := fun W => Box W (w.heap.size) (V) ∧ Below w.heap.size w W) (And.intro (Box.newc rfl rfl) (by go_grown)) ?_
  intro w0 ⟨e_c, hB0⟩
  have hs0 := hB0.size
  have x_c0 := e_c; clear e_c
  go_wp2_with (refine wpList_load_box9 rfl _ _ rfl x_c0 rfl Try.underlying31 rfl SV.out ?_)
  refine (MR _).mono ?_
  rintro e w1 ⟨vr, rfl, hr, hb1⟩
  have hB1 := below_thru hB0 hb1
  go_wp2_with fail
  refine (WR _ _ hr).mono ?_
  rintro e w2 ⟨vm, rfl, hm, hb2⟩
  have hB2 := below_thru hB1 hb2
  clear hr
  go_wp2_with fail
  go_returns
  exact ⟨vm, rfl, hm, hB2⟩

def GivesE (xs : List Int) (q : Int) (w : World) (e : Ending) (w' : World) : Prop := ∃ v, e = .returned (.tuple #[v, .int .i64 q]) ∧ IsL w' .u8 v xs ∧ Below w.heap.size w w'
set_option maxRecDepth 100000 in
set_option maxHeartbeats 1600000 in
theorem bef_t (c : Cmd) (h : c.Ok) (w : World) : Calls Try.prog 13 #[.agg (ccell c).toArray] w (GivesE c.msg 0 w) := by
  have SV := Lib.hid (size_cmd c)
  have IC := fun W => isc_is c (q := true) (Lib.hid ⟨fun _ => rfl, fun _ => h⟩) W
  have MR := fun W => msg_is c (Cmd.ok_wd h) W
  obtain ⟨V, hV⟩ : ∃ V, ccell c = V := ⟨_, rfl⟩
  rw [hV] at SV MR IC ⊢
  clear hV h
  go_enter Try.func13, Try.ntmps13
  go_upto_region 1 with fail
  refine F_gen (F := fun W => Code.wp _ _ _ _ W) (J := fun W => Box W (w.heap.size) (V) ∧ Below w.heap.size w W) (And.intro (Box.newc rfl rfl) (by go_grown)) ?_
  intro w0 ⟨e_c, hB0⟩
  have hs0 := hB0.size
  have x_c0 := e_c; clear e_c
  go_wp2_with (refine wpList_load_box9 rfl _ _ rfl x_c0 rfl Try.underlying31 rfl SV.out ?_)
  refine (IC _).mono ?_
  rintro e w1 ⟨rfl, hb⟩
  clear IC
  have hB1 : Below w.heap.size w w1 := below_thru hB0 hb
  have hs1 := hB1.size
  have x_c1 : Box w1 (w.heap.size) (V) := Box.below x_c0 hb
  clear hB0 hs0 x_c0
  clear hb
  go_wp2_with (refine wpList_load_box9 rfl _ _ rfl x_c1 rfl Try.underlying31 rfl SV.out ?_)
  refine (MR _).mono ?_
  rintro e w2 ⟨vr, rfl, hr, hb2⟩
  have hB2 := below_thru hB1 hb2
  go_wp2_with fail
  go_returns
  exact ⟨vr, rfl, hr, hB2⟩

set_option maxRecDepth 100000 in
set_option maxHeartbeats 1600000 in
theorem bef_f (c : Cmd) (h : ¬ c.Ok) (w : World) : Calls Try.prog 13 #[.agg (ccell c).toArray] w (GivesE [] 8 w) := by
  have SV := Lib.hid (size_cmd c)
  have IC := fun W => isc_is c (q := false) (Lib.hid ⟨fun g => absurd g h, fun g => by cases g⟩) W
  obtain ⟨V, hV⟩ : ∃ V, ccell c = V := ⟨_, rfl⟩
  rw [hV] at SV IC ⊢
  clear hV h
  go_enter Try.func13, Try.ntmps13
  go_upto_region 1 with fail
  refine F_gen (F := fun W => Code.wp _ _ _ _ W) (J := fun W => Box W (w.heap.size) (V) ∧ Below w.heap.size w W) (And.intro (Box.newc rfl rfl) (by go_grown)) ?_
  intro w0 ⟨e_c, hB0⟩
  have hs0 := hB0.size
  have x_c0 := e_c; clear e_c
  go_wp2_with (refine wpList_load_box9 rfl _ _ rfl x_c0 rfl Try.underlying31 rfl SV.out ?_)
  refine (IC _).mono ?_
  rintro e w1 ⟨rfl, hb⟩
  clear IC
  have hB1 : Below w.heap.size w w1 := below_thru hB0 hb
  have hs1 := hB1.size
  have x_c1 : Box w1 (w.heap.size) (V) := Box.below x_c0 hb
  clear hB0 hs0 x_c0
  clear hb
  go_wp2_with fail
  go_returns
  exact ⟨_, rfl, IsL.none, hB1⟩

theorem bef_is (c : Cmd) {xs : List Int} {q : Int} (h : (q = 0 ∧ c.Ok ∧ xs = c.msg) ∨ (q = 8 ∧ ¬ c.Ok ∧ xs = [])) (w : World) : Calls Try.prog 13 #[.agg (ccell c).toArray] w (GivesE xs q w) := by
  rcases h with ⟨rfl, h, rfl⟩ | ⟨rfl, h, rfl⟩
  · exact bef_t c h w
  · exact bef_f c h w

theorem fd3_bs {n : Int} (h : 0 ≤ n ∧ n ≤ 65535) : (fdN 3 n).bs = be 2 n := fdN_bs (by decide) (by omega) (by decide)
theorem fd3_ok {n : Int} (h : 0 ≤ n ∧ n ≤ 65535) : (fdN 3 n).ok = true := fdN_ok (by decide) (by omega) (by decide) h.2
theorem one8 : (0 : Int) ≤ 1 ∧ (1 : Int) ≤ 255 := by decide
theorem row1_e : rowE [fdN 2 1] = 0 := rowE_ok (by decide) (fun f hf => by simp at hf; rw [hf]; exact fd2_ok one8)
theorem row1_b : rowB [fdN 2 1] = [1] := by
  show (fdN 2 1).bs ++ [] = [1]
  rw [fd2_bs one8]
  rfl
theorem row2_e (r : Req) : rowE [fdN 3 r.ep, fdN 4 r.co] = 0 := rowE_ok (by show 2 ≤ 40; decide) (fun f hf => by
  simp at hf
  rcases hf with rfl | rfl
  · exact fd3_ok r.hep
  · exact fd4_ok r.hco)
theorem row2_b (r : Req) : rowB [fdN 3 r.ep, fdN 4 r.co] = be 2 r.ep ++ be 4 r.co := by
  show (fdN 3 r.ep).bs ++ ((fdN 4 r.co).bs ++ []) = _
  rw [fd3_bs r.hep, fd4_bs r.hco, List.append_nil]
theorem rcell_t (r : Req) : (rcell r).drop 0 = tcell r.k r.g ++ [.int .u16 r.ep, .int .u32 r.co] := rfl
theorem rcell_ep (r : Req) : (rcell r)[36]? = some (.int .u16 r.ep) := by
  unfold rcell
  rw [List.getElem?_append_right (by rw [tcell_len r.k r.hg]; decide), tcell_len r.k r.hg]
  rfl
theorem rcell_co (r : Req) : (rcell r)[37]? = some (.int .u32 r.co) := by
  unfold rcell
  rw [List.getElem?_append_right (by rw [tcell_len r.k r.hg]; decide), tcell_len r.k r.hg]
  rfl
theorem own_sl9 {w : World} {B e : Nat} {v : Value} {n : Nat} {l : List Value} (h : w.ownsRow B e 1 v n l) : ∃ a c, v = .slice a n c := by
  rcases h.2 with ⟨rfl, rfl⟩ | ⟨g, cap, cur, rfl, _⟩
  · exact ⟨none, 0, rfl⟩
  · exact ⟨_, _, rfl⟩

set_option maxRecDepth 100000 in
set_option maxHeartbeats 6400000 in
theorem reqb_is (r : Req) (w : World) : Calls Try.prog 25 #[.agg (rcell r).toArray] w (GivesOwn (1 :: r.bs) w) := by
  obtain ⟨ti, hin, hz0, hz1, hz2⟩ := info_parts info_fld
  have SR := Lib.hid (size_req r)
  have ST := Lib.hid (size_tok r.k r.hg)
  have DT := Lib.hid (rcell_t r)
  have v36 := rcell_ep r
  have v37 := rcell_co r
  have wn1 : IntKind.u64.wrap r.ep = r.ep := by have := r.hep; rw [IntKind.wrap_u64]; omega
  have wn2 : IntKind.u64.wrap r.co = r.co := by have := r.hco; rw [IntKind.wrap_u64]; omega
  have CN0 := fun W => num_is 2 1 W
  have FV0 := fdN_v (k := 2) (n := 1) (by decide) (k8 one8)
  rw [← FV0] at CN0
  clear FV0
  have CN1 := fun W => num_is 3 r.ep W
  have FV1 := fdN_v (k := 3) (n := r.ep) (by decide) (by have := r.hep; omega)
  rw [← FV1] at CN1
  clear FV1
  have CN2 := fun W => num_is 4 r.co W
  have FV2 := fdN_v (k := 4) (n := r.co) (by decide) (k32 r.hco)
  rw [← FV2] at CN2
  clear FV2
  have WT := fun W => twrite_is r.k r.hg W
  have WR1 := fun (W : World) (v : Value) (h : IsR LF W v [fdN 2 1]) => fwrite_is W h
  rw [rowV_ok row1_e, row1_e, row1_b] at WR1
  have WR2 := fun (W : World) (v : Value) (h : IsR LF W v [fdN 3 r.ep, fdN 4 r.co]) => fwrite_is W h
  rw [rowV_ok (row2_e r), row2_e r, row2_b r] at WR2
  have HBS : Hid (1 :: r.bs = [[1], r.k.msg ++ r.g, be 2 r.ep ++ be 4 r.co].flatten) := Lib.hid (by unfold Req.bs; simp)
  have LT : Hid ((r.k.msg ++ r.g).length = 52) := Lib.hid (by rw [List.length_append, r.k.msg_len, r.hg])
  have LE : Hid ((be 2 r.ep ++ be 4 r.co).length = 6) := Lib.hid (by rw [List.length_append, be_len, be_len])
  obtain ⟨f0, hf0⟩ : ∃ f, fdN 2 1 = f := ⟨_, rfl⟩
  rw [hf0] at CN0 WR1
  have FL0 := f0.v_len; have FE0 := flatF f0
  obtain ⟨V0, hV0⟩ : ∃ V, f0.v = V := ⟨_, rfl⟩
  rw [hV0] at CN0 FL0 FE0
  obtain ⟨f1, hf1⟩ : ∃ f, fdN 3 r.ep = f := ⟨_, rfl⟩
  rw [hf1] at CN1 WR2
  have FL1 := f1.v_len; have FE1 := flatF f1
  obtain ⟨V1, hV1⟩ : ∃ V, f1.v = V := ⟨_, rfl⟩
  rw [hV1] at CN1 FL1 FE1
  obtain ⟨f2, hf2⟩ : ∃ f, fdN 4 r.co = f := ⟨_, rfl⟩
  rw [hf2] at CN2 WR2
  have FL2 := f2.v_len; have FE2 := flatF f2
  obtain ⟨V2, hV2⟩ : ∃ V, f2.v = V := ⟨_, rfl⟩
  rw [hV2] at CN2 FL2 FE2
  have HB1 := fun W => run_bsliceN (P := Try.prog) (n := 1) W 85 83 ti _ 34 Try.underlying85 hin hz0 hz1 rfl [V0] (by simp [FL0]) (by decide) (by simp) #[(0, .agg V0.toArray)] rfl rfl (by decide)
  rw [show [V0].flatten = V0 by simp] at HB1
  have HB1 := Lib.hid HB1
  have HB2 := Lib.hid (fun W => run_bsliceN (P := Try.prog) (n := 2) W 85 83 ti _ 34 Try.underlying85 hin hz0 hz1 rfl [V1, V2] (by simp [FL1, FL2]) (by decide) (by simp) #[(0, .agg V1.toArray), (1, .agg V2.toArray)] rfl rfl (by decide))
  have EV1 : Hid (V0 = flatR LF [f0]) := Lib.hid FE0.symm
  have EV2 : Hid ([V1, V2].flatten = flatR LF [f1, f2]) := Lib.hid (by rw [← hV1, ← hV2]; simp [flatR, LF])
  obtain ⟨X, hX⟩ : ∃ X, 1 :: r.bs = X := ⟨_, rfl⟩
  obtain ⟨TT, hTT⟩ : ∃ X, r.k.msg ++ r.g = X := ⟨_, rfl⟩
  obtain ⟨TE, hTE⟩ : ∃ X, be 2 r.ep ++ be 4 r.co = X := ⟨_, rfl⟩
  rw [hX] at HBS ⊢
  rw [hTT] at WT HBS LT
  rw [hTE] at WR2 HBS LE
  obtain ⟨V, hV⟩ : ∃ V, rcell r = V := ⟨_, rfl⟩
  obtain ⟨TC, hTC⟩ : ∃ V, tcell r.k r.g = V := ⟨_, rfl⟩
  rw [hV] at SR DT v36 v37 ⊢
  rw [hTC] at ST DT WT
  clear hV hTC hX hTT hTE hf0 hf1 hf2 hV0 hV1 hV2 FL0 FL1 FL2 FE0 FE1 FE2
  go_enter Try.func25, Try.ntmps25
  go_upto_region 1 with fail
  refine F_gen (F := fun W => Code.wp _ _ _ _ W) (J := fun W => Box W (w.heap.size) (V) ∧ Below w.heap.size w W) (And.intro (Box.newc rfl rfl) (by go_grown)) ?_
  intro w0 ⟨e_r, hB0⟩
  have hs0 := hB0.size
  have x_r0 := e_r; clear e_r
  go_wp2_with fail
  refine (CN0 _).mono ?_
  rintro e w1 ⟨rfl, hb⟩
  have hB1 : Below w.heap.size w w1 := below_thru hB0 hb
  have hs1 := hB1.size
  have x_r1 : Box w1 (w.heap.size) (V) := Box.below x_r0 hb
  clear hB0 hs0 x_r0
  clear hb
  have HIR : IsR LF (w1.alloc (.cells V0.toArray 83)) (.slice (some ⟨w1.heap.size, 0, none⟩) 1 1) [f0] := IsR.ofBox (Box.newc rfl rfl) EV1.out rfl (by decide)
  go_wp2_with (refine wpList_bsliceN rfl 85 1 _ rfl (us := #[(0, .agg V0.toArray)]) (by rfl) (HB1.out _) ?_)
  refine (WR1 _ _ HIR).mono ?_
  rintro e w2 ⟨vk, rfl, hk, hb⟩
  have hb2 : Below w1.heap.size w1 w2 := below_thru ((Below.refl _ _).alloc (Nat.le_refl _) _) hb
  clear hb HIR
  have hB2 : Below w.heap.size w w2 := below_thru hB1 hb2
  have hs2 := hB2.size
  have x_r2 : Box w2 (w.heap.size) (V) := Box.below x_r1 hb2
  clear hB1 hs1 x_r1
  clear hb2
  obtain ⟨ak, ck, rfl, hk2⟩ := id hk
  have J_k2 : Hid (IsL w2 .u8 (.slice ak 1 ck) [1]) := Lib.hid hk
  clear hk hk2
  go_upto_region 2 with fail
  refine wp_region_held_drew (S := fun W => Box W w.heap.size V) (by kernel_rfl) (x_r2).drew (fun _ => ?_)
  refine F_drew (F := fun W => wpAnyH _ _ _ _ _ _ _ _ W) ?_
  intro W0 hb0
  have xc0 := x_r2.below hb0; have Bc0 := below_thru hB2 hb0; have Jc0 := Lib.hid (J_k2.out.below hb0)
  clear x_r2 hB2 J_k2 hs2 hb0
  refine takeH 0 14 (v := ?vt0_1) rfl (by rfl) (by kernel_rfl) (by kernel_rfl) (by kernel_rfl) (fun _ _ _ h => h) (Or.inl ⟨by rfl, ?_⟩) (xc0) ?_
  rotate_left
  · intro wq hSq
    go_simp
    exact rfl
  try simp only [Act.put, List.setIfInBounds_toArray, List.set_cons_zero, List.set_cons_succ]
  refine takeH 1 15 (v := ?vt1_2) rfl (by rfl) (by kernel_rfl) (by kernel_rfl) (by kernel_rfl) (fun _ _ _ h => h) (Or.inl ⟨by rfl, ?_⟩) (xc0) ?_
  rotate_left
  · intro wq hSq
    have cq := hSq.c 36 _ v36
    have zq := lt_of_cell cq
    go_simp
    exact rfl
  try simp only [Act.put, List.setIfInBounds_toArray, List.set_cons_zero, List.set_cons_succ]
  refine takeH 2 16 (v := ?vt2_3) rfl (by rfl) (by kernel_rfl) (by kernel_rfl) (by kernel_rfl) (fun _ _ _ h => h) (Or.inl ⟨by rfl, ?_⟩) (xc0) ?_
  rotate_left
  · intro wq hSq
    go_simp
    exact rfl
  try simp only [Act.put, List.setIfInBounds_toArray, List.set_cons_zero, List.set_cons_succ]
  refine takeH 4 18 (v := ?vt4_4) rfl (by rfl) (by kernel_rfl) (by kernel_rfl) (by kernel_rfl) (fun _ _ _ h => h) (Or.inl ⟨by rfl, ?_⟩) (xc0) ?_
  rotate_left
  · intro wq hSq
    go_simp
    exact rfl
  try simp only [Act.put, List.setIfInBounds_toArray, List.set_cons_zero, List.set_cons_succ]
  refine takeH 5 19 (v := ?vt5_5) rfl (by rfl) (by kernel_rfl) (by kernel_rfl) (by kernel_rfl) (fun _ _ _ h => h) (Or.inl ⟨by rfl, ?_⟩) (xc0) ?_
  rotate_left
  · intro wq hSq
    have cq := hSq.c 37 _ v37
    have zq := lt_of_cell cq
    go_simp
    exact rfl
  try simp only [Act.put, List.setIfInBounds_toArray, List.set_cons_zero, List.set_cons_succ]
  refine takeH 6 20 (v := ?vt6_6) rfl (by rfl) (by kernel_rfl) (by kernel_rfl) (by kernel_rfl) (fun _ _ _ h => h) (Or.inl ⟨by rfl, ?_⟩) (xc0) ?_
  rotate_left
  · intro wq hSq
    go_simp
    exact rfl
  try simp only [Act.put, List.setIfInBounds_toArray, List.set_cons_zero, List.set_cons_succ]
  refine wpAnyH_ready (rs := [3]) (by kernel_rfl) (by simp) (AllReadyH.cons rfl (fun K hK => ?_) AllReadyH.nil)
  go_simp
  refine (CN1 _).mono ?_
  rintro e W7 ⟨rfl, hb7⟩
  have xc7 := Box.below xc0 hb7; have Bc7 := below_thru Bc0 hb7; have Jc7 := Lib.hid (Jc0.out.below hb7)
  clear xc0 Bc0 Jc0 hb7
  refine hK.out _ _ xc7 (fun _ => ?_); clear hK K
  refine wpAnyH_ready (rs := [7]) (by kernel_rfl) (by simp) (AllReadyH.cons rfl (fun K hK => ?_) AllReadyH.nil)
  go_simp
  refine (CN2 _).mono ?_
  rintro e W8 ⟨rfl, hb8⟩
  have xc8 := Box.below xc7 hb8; have Bc8 := below_thru Bc7 hb8; have Jc8 := Lib.hid (Jc7.out.below hb8)
  clear xc7 Bc7 Jc7 hb8
  refine hK.out _ _ xc8 (fun _ => ?_); clear hK K
  refine wpAnyH_ready (rs := [8]) (by kernel_rfl) (by simp) (AllReadyH.cons rfl (fun K hK => ?_) AllReadyH.nil)
  refine step_bsliceH 22 rfl rfl 85 2 _ rfl (us := #[(0, .agg V1.toArray), (1, .agg V2.toArray)]) (by rfl) (HB2.out _) ?_
  refine hK.out _ _ (Box.alloc xc8 _) (fun _ => ?_); clear hK K
  refine F_gen (F := fun W => wpAnyH _ _ _ _ _ _ _ _ W) (J := fun W => IsR LF W (.slice (some ⟨W8.heap.size, 0, none⟩) 2 2) [f1, f2] ∧ Below W8.heap.size W8 W) (And.intro (IsR.ofBox (Box.newc rfl rfl) EV2.out rfl (by decide)) ((Below.refl _ _).alloc (Nat.le_refl _) _)) ?_
  intro W9 ⟨hIR, hb9⟩
  have xc9 := Box.below xc8 hb9; have Bc9 := below_thru Bc8 hb9; have Jc9 := Lib.hid (Jc8.out.below hb9)
  clear xc8 Bc8 Jc8 hb9
  refine wpAnyH_ready (rs := [9]) (by kernel_rfl) (by simp) (AllReadyH.cons rfl (fun K hK => ?_) AllReadyH.nil)
  go_simp
  refine (WR2 _ _ hIR).mono ?_
  rintro e W10 ⟨ve, rfl, he, hb10⟩
  have xc10 := Box.below xc9 hb10; have Bc10 := below_thru Bc9 hb10; have Jc10 := Lib.hid (Jc9.out.below hb10)
  clear xc9 Bc9 Jc9 hb10
  obtain ⟨ae, ce, rfl, he2⟩ := id he
  clear he2
  refine hK.out _ _ xc10 (fun _ => ?_); clear hK K
  refine takeH 10 13 (v := ?vt10_11) rfl (by rfl) (by kernel_rfl) (by kernel_rfl) (by kernel_rfl) (fun _ _ _ h => h) (Or.inl ⟨by rfl, ?_⟩) (xc10) ?_
  rotate_left
  · intro wq hSq
    go_simp
    exact rfl
  try simp only [Act.put, List.setIfInBounds_toArray, List.set_cons_zero, List.set_cons_succ]
  refine takeH 11 24 (v := ?vt11_12) rfl (by rfl) (by kernel_rfl) (by kernel_rfl) (by kernel_rfl) (fun _ _ _ h => h) (Or.inl ⟨by rfl, ?_⟩) (xc10) ?_
  rotate_left
  · intro wq hSq
    go_simp
    exact rfl
  try simp only [Act.put, List.setIfInBounds_toArray, List.set_cons_zero, List.set_cons_succ]
  refine takeH 12 25 (v := ?vt12_13) rfl (by rfl) (by kernel_rfl) (by kernel_rfl) (by kernel_rfl) (fun _ _ _ h => h) (Or.inl ⟨by rfl, ?_⟩) (xc10) ?_
  rotate_left
  · intro wq hSq
    go_simp
    exact rfl
  try simp only [Act.put, List.setIfInBounds_toArray, List.set_cons_zero, List.set_cons_succ]
  refine takeH 13 5 (v := ?vt13_14) rfl (by rfl) (by kernel_rfl) (by kernel_rfl) (by kernel_rfl) (fun _ _ _ h => h) (Or.inl ⟨by rfl, ?_⟩) (xc10) ?_
  rotate_left
  · intro wq hSq
    go_simp
    exact rfl
  try simp only [Act.put, List.setIfInBounds_toArray, List.set_cons_zero, List.set_cons_succ]
  refine takeH 14 6 (v := ?vt14_15) rfl (by rfl) (by kernel_rfl) (by kernel_rfl) (by kernel_rfl) (fun _ _ _ h => h) (Or.inl ⟨by rfl, ?_⟩) (xc10) ?_
  rotate_left
  · intro wq hSq
    go_simp
    exact rfl
  try simp only [Act.put, List.setIfInBounds_toArray, List.set_cons_zero, List.set_cons_succ]
  refine wpAnyH_done (by kernel_rfl) ?_ _
  have x_r3 := xc10; have hB3 := Bc10; have hs3 := hB3.size; have J_k3 := Jc10; clear xc10 Bc10 Jc10
  have J_e3 : Hid (IsL W10 .u8 (.slice ae (TE.length) ce) TE) := Lib.hid he
  clear he
  go_wp2_with (refine wpList_load_rangew rfl _ _ rfl (Box.rangeMid x_r3 0 (TC) (_) DT.out) rfl Try.underlying38 rfl ST.out ?_)
  refine (WT _).mono ?_
  rintro e w9 ⟨vt, rfl, ho, hb⟩
  have hB4 : Below w.heap.size w w9 := below_thru hB3 hb
  have hs4 := hB4.size
  have x_r4 : Box w9 (w.heap.size) (V) := Box.below x_r3 hb
  have J_k4 : Hid (IsL w9 .u8 (.slice ak 1 ck) [1]) := Lib.hid (IsL.below J_k3.out hb)
  have J_e4 : Hid (IsL w9 .u8 (.slice ae (TE.length) ce) TE) := Lib.hid (IsL.below J_e3.out hb)
  clear hB3 hs3 x_r3 J_k3 J_e3
  clear hb
  have ht := IsL.own ho rfl
  obtain ⟨at1, ct1, rfl⟩ := own_sl9 ho
  clear ho
  have J_t4 : Hid (IsL w9 .u8 (.slice at1 (TT.length) ct1) TT) := Lib.hid ht
  clear ht
  have hv : Box (w9.alloc (.cells #[.slice ak 1 ck, .slice at1 (TT.length) ct1, .slice ae (TE.length) ce] 33)) w9.heap.size [.slice ak 1 ck, .slice at1 (TT.length) ct1, .slice ae (TE.length) ce] := Box.newc rfl rfl
  have C := concat_is (n := 3) (xss := [[1], TT, TE]) _ hv (fun i v xs h1 h2 => by match i, h1, h2 with | 0, h1, h2 => (cases h1; cases h2; exact J_k4.out.alloc _) | 1, h1, h2 => (cases h1; cases h2; exact J_t4.out.alloc _) | 2, h1, h2 => (cases h1; cases h2; exact J_e4.out.alloc _)) rfl rfl (by decide) (by simp [LT.out, LE.out])
  rw [← HBS.out] at C
  go_wp2_with fail
  refine C.mono ?_
  rintro e w10 ⟨vr, rfl, ho, hb⟩
  have hB9 := below_thru (hB4.alloc hs4 _) hb
  have ho := ownR_base ho (by simp; omega : w.heap.size ≤ _)
  clear hv C hb
  go_wp2_with fail
  go_returns
  exact ⟨_, rfl, ho, hB9⟩

end Go.Proofs.Ytkpdlbcmnfphmaa
