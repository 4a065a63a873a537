/-
  alive of layer 12, walked.
-/
import Derived.Test.YtpccahdbienjeaaDoorIdLaw
import Derived.Test.YtpccahdbienjeaaDoorRIdF0
import Derived.Test.YtpccahdbienjeaaDoorGS1
namespace Go.Proofs.YtpccahdbienjeaaDoor
open Go.RowKit

def tgA : List Int := 9 :: List.replicate 31 0
def tgB : List Int := 8 :: List.replicate 31 0
theorem tgA_b : Byts tgA := by show ∀ x ∈ tgA, _; decide
theorem tgB_b : Byts tgB := by show ∀ x ∈ tgB, _; decide
def nm12 : Nums := ⟨1, 2, 0, 0, by decide, by decide, by decide, by decide⟩
def tkA : Tk := ⟨nm12, tgA, by decide, tgA_b⟩
def tkB : Tk := ⟨nm12, tgB, by decide, tgB_b⟩
theorem tk_ne : tkA ≠ tkB := fun h => absurd (congrArg (fun t : Tk => nth t.g 0) h) (by decide)
def rqA1 : Req := ⟨nm12, tgA, 0, 0, by decide, tgA_b, by decide, by decide⟩
def rqA2 : Req := ⟨nm12, tgA, 65535, 4294967295, by decide, tgA_b, by decide, by decide⟩
def rqB1 : Req := ⟨nm12, tgB, 0, 0, by decide, tgB_b, by decide, by decide⟩
theorem chk0 : ChkD [] [] 0 := Or.inr (Or.inr (Or.inr ⟨rfl, by decide, fun _ h => by simp at h, fun _ h => by simp at h, fun _ _ _ _ _ h => by simp at h, fun _ _ _ _ _ h => by simp at h⟩))
theorem chk1 : ChkD [tkA] [] 0 := chk0.put_t (t := tkA) (by decide) (fun _ h => by simp at h)
theorem put1 : PutT [] [] tkA [tkA] [] 0 := Or.inr ⟨chk0, _, Or.inr ⟨by decide, Or.inr (Or.inr ⟨fun _ h => by simp at h, Or.inr ⟨rfl, by decide, rfl⟩⟩)⟩, Or.inr ⟨rfl, rfl⟩⟩
theorem put2 : PutT [tkA] [] tkB [] [] 14 := Or.inr ⟨chk1, _, Or.inr ⟨by decide, Or.inl ⟨rfl, ⟨tkA, by simp, rfl, tk_ne⟩, rfl⟩⟩, Or.inl ⟨rfl, rfl, rfl⟩⟩
theorem acp2 : AcpD [tkA] [] (Frm.req rqB1) false 0 := Or.inr (Or.inr ⟨rfl, chk1, Frm.req_ok (by decide), ⟨fun h => (Bool.false_ne_true h).elim, fun h => by
  have := (AccD.of1 (f := Frm.req rqB1) (show (1 : Int) ≠ 2 by decide)).1 h
  exact absurd (List.mem_singleton.1 this).symm tk_ne⟩⟩)
theorem acc1 : Acc [tkA] [] (Frm.req rqA1) := ⟨chk1, Frm.req_ok (by decide), (AccD.of1 (f := Frm.req rqA1) (show (1 : Int) ≠ 2 by decide)).2 (List.mem_singleton.2 rfl)⟩
theorem acc2 : Acc [tkA] [] (Frm.req rqA2) := ⟨chk1, Frm.req_ok (by decide), (AccD.of1 (f := Frm.req rqA2) (show (1 : Int) ≠ 2 by decide)).2 (List.mem_singleton.2 rfl)⟩
theorem build_tgA (W : World) : (Instr.build 29 #[(0, .int .u8 9)]).run Tryd.prog W = .ok (.agg (tgA.map (Value.int .u8)).toArray) W := by kernel_rfl
theorem build_tkA (W : World) : (Instr.build 31 #[(0, .int .u32 1), (1, .int .u32 2), (4, .agg (tgA.map (Value.int .u8)).toArray)]).run Tryd.prog W = .ok (.agg tkA.v.toArray) W := by kernel_rfl

set_option maxRecDepth 100000 in
set_option maxHeartbeats 6400000 in
theorem alive12_is (w : World) : Calls Tryd.prog 5 #[] w fun e w' => e = .returned (.bool true) ∧ Below w.heap.size w w' := by
  have NW := fun W => pnew_is W; have P1 := fun (W : World) (u : Value) (h : IsD W u [] []) => ptok_is tkA (by decide) put1 W h; have P2 := fun (W : World) (u : Value) (h : IsD W u [tkA] []) => ptok_is tkB (by decide) put2 W h
  have QA1 := fun W => lreq12_is rqA1 W; have QA2 := fun W => lreq12_is rqA2 W; have QB1 := fun W => lreq12_is rqB1 W
  rw [show rqA1.tk = tkA from rfl, show rqA1.ep = 0 from rfl, show rqA1.co = 0 from rfl] at QA1
  rw [show rqA2.tk = tkA from rfl, show rqA2.ep = 65535 from rfl, show rqA2.co = 4294967295 from rfl] at QA2
  rw [show rqB1.tk = tkB from rfl, show rqB1.ep = 0 from rfl, show rqB1.co = 0 from rfl] at QB1
  have AB := fun (W : World) (u : Value) (h : IsD W u [tkA] []) => pacp_is (Frm.req rqB1) (by decide) acp2 W h; have A1 := fun (W : World) (u : Value) (h : IsD W u [tkA] []) => lacc12_is (Frm.req rqA1) (by decide) (b := true) ⟨fun _ => acc1, fun _ => rfl⟩ W h; have A2 := fun (W : World) (u : Value) (h : IsD W u [tkA] []) => lacc12_is (Frm.req rqA2) (by decide) (b := true) ⟨fun _ => acc2, fun _ => rfl⟩ W h
  have BG := fun W => build_tgA W; have BT := fun W => build_tkA W; have SV := Lib.hid (size_tk tkA); have LV : Hid (zT12.length = tkA.v.length) := Lib.hid rfl; have OV := Lib.hid (one_tk tkA); have SU := Lib.hid (size_tk tkB)
  have E1 : Hid (tkB.v = tkA.v.set 4 (.int .u8 8)) := Lib.hid rfl; have N1 : Hid (tkA.v.length = 36) := Lib.hid tkA.v_len; have c4 : tkA.v[4]? = some (.int .u8 9) := rfl; have SI := Lib.hid size_i0; have OI := Lib.hid one_i0
  obtain ⟨TG, hTG⟩ : ∃ X, tgA.map (Value.int .u8) = X := ⟨_, rfl⟩
  rw [hTG] at BG BT
  clear hTG
  obtain ⟨V, hV⟩ : ∃ X, tkA.v = X := ⟨_, rfl⟩
  rw [hV] at P1 QA1 QA2 BT SV LV OV E1 N1 c4
  clear hV
  obtain ⟨U, hU⟩ : ∃ X, tkB.v = X := ⟨_, rfl⟩
  rw [hU] at P2 QB1 SU E1
  clear hU
  obtain ⟨FA1, hFA1⟩ : ∃ X, mcell (Frm.req rqA1) = X := ⟨_, rfl⟩
  rw [hFA1] at QA1 A1
  clear hFA1
  obtain ⟨FA2, hFA2⟩ : ∃ X, mcell (Frm.req rqA2) = X := ⟨_, rfl⟩
  rw [hFA2] at QA2 A2
  clear hFA2
  obtain ⟨FB1, hFB1⟩ : ∃ X, mcell (Frm.req rqB1) = X := ⟨_, rfl⟩
  rw [hFB1] at QB1 AB
  clear hFB1
  go_enter Tryd.func5, Tryd.ntmps5
  have hB0 := Below.refl w.heap.size w
  have hs0 := hB0.size
  have d_t_0 := hs0
  go_upto_region 2 with (first
    | (refine wpList_build9 rfl 29 _ rfl (us := #[(0, .int .u8 9)]) (by rfl) (BG _) ?_)
    | (refine wpList_build9 rfl 31 _ rfl (us := #[(0, .int .u32 1), (1, .int .u32 2), (4, .agg TG.toArray)]) (by rfl) (BT _) ?_)
    | (refine wpList_store_box (cs := V) rfl _ _ _ rfl (Box.newc (l := zT12) rfl rfl) rfl rfl SV.out LV.out OV.out ?_; intro W0_0 hW0_0))
  have hN : Below w.heap.size w W0_0 := (hW0_0.below _ _ (by omega) ((Below.refl _ w).alloc (Nat.le_refl _) _))
  have x_t1 : Box W0_0 (w.heap.size) (V) := hW0_0.box
  have hB1 : Below w.heap.size w W0_0 := below_thru hB0 hN
  have hs1 := hB1.size
  clear hB0 hs0
  clear hN hW0_0
  simp only [Act.put]
  go_cut [2, 3] (fun p q wx => ∃ (bD : Nat) (a b : Value), p = .pointer (some ⟨bD, 0, none⟩) ∧ q = .int .i64 0 ∧ w.heap.size < bD ∧ Box wx (w.heap.size) V ∧ Box wx bD [a, b] ∧ Hid (IsD wx (.agg #[a, b]) [tkA] []) ∧ Below w.heap.size w wx)
  case first =>
    refine wp_region_held_drew (S := fun W => Box W (w.heap.size) (V)) (by kernel_rfl) (x_t1).drew (fun _ => ?_)
    refine F_drew (F := fun W => wpAnyH _ _ _ _ _ _ _ _ W) ?_
    intro Ws0 hbs0
    clear hs1
    have x_t_s0 : Box Ws0 (w.heap.size) (V) := Box.below x_t1 hbs0
    have Bs0 := below_thru hB1 hbs0
    clear x_t1 hB1 hbs0
    refine takeH 1 13 (v := .agg (V).toArray) rfl (by rfl) (by kernel_rfl) (by kernel_rfl) (by kernel_rfl) (fun _ _ _ h => h) (yieldsIf_load_mid (by rfl) _ _ rfl _ _ rfl (V) _ (fun wq hq => Box.range (hq)) Tryd.underlying31 rfl SV.out) (x_t_s0) ?_
    try simp only [Act.put, List.setIfInBounds_toArray, List.set_cons_zero, List.set_cons_succ]
    refine wpAnyH_ready (rs := [0, 6]) (by kernel_rfl) (by simp) (AllReadyH.cons rfl (fun K hK => ?_) (AllReadyH.cons rfl (fun K hK => ?_) AllReadyH.nil))
    · skip
      go_simp
      refine (NW _).mono ?_
      rintro e Ws1 ⟨n1, n2, rfl, on1, on2, hbs1⟩
      have IN : IsD Ws1 (.agg #[n1, n2]) [] [] := ⟨_, _, rfl, IsR.own on1 rfl rfl, IsR.own on2 rfl rfl⟩
      clear on1 on2
      have x_t_s1 : Box Ws1 (w.heap.size) (V) := Box.below x_t_s0 hbs1
      have Bs1 := below_thru Bs0 hbs1
      clear x_t_s0 Bs0 hbs1
      have KN1 : Below Ws1.heap.size Ws1 Ws1 := Below.refl _ _
      refine hK.out _ _ x_t_s1 (fun _ => ?_); clear hK K
      refine wpAnyH_ready (rs := [2, 6]) (by kernel_rfl) (by simp) (AllReadyH.cons rfl (fun K hK => ?_) (AllReadyH.cons rfl (fun K hK => ?_) AllReadyH.nil))
      · skip
        have zB1 := Below.size Bs1
        go_simp
        refine (P1 _ _ (IN.below KN1)).mono ?_
        rintro e Ws2 ⟨d1, d2, rfl, od1, od2, hbs2⟩
        have ID : IsD Ws2 (.agg #[d1, d2]) [tkA] [] := ⟨_, _, rfl, IsR.own od1 rfl rfl, IsR.own od2 rfl rfl⟩
        obtain ⟨pd1, nd1, rfl⟩ := own_slR od1; obtain ⟨pd2, nd2, rfl⟩ := own_slR od2; have OD1 := Lib.hid od1; have OD2 := Lib.hid od2; clear od1 od2
        have x_t_s2 : Box Ws2 (w.heap.size) (V) := Box.below x_t_s1 hbs2
        have Bs2 := below_thru Bs1 hbs2
        have K_NEW_s2 := below_thru KN1 hbs2
        clear x_t_s1 Bs1 KN1 hbs2
        have KT2 : Below Ws2.heap.size Ws2 Ws2 := Below.refl _ _
        refine hK.out _ _ x_t_s2 (fun _ => ?_); clear hK K
        refine takeH 3 11 (v := ?vs3_3) rfl (by rfl) (by kernel_rfl) (by kernel_rfl) (by kernel_rfl) (fun _ _ _ h => h) (Or.inl ⟨by rfl, ?_⟩) (x_t_s2) ?_
        rotate_left
        · intro wq hSq
          go_simp
          exact rfl
        try simp only [Act.put, List.setIfInBounds_toArray, List.set_cons_zero, List.set_cons_succ]
        refine takeH 4 15 (v := ?vs4_4) rfl (by rfl) (by kernel_rfl) (by kernel_rfl) (by kernel_rfl) (fun _ _ _ h => h) (Or.inl ⟨by rfl, ?_⟩) (x_t_s2) ?_
        rotate_left
        · intro wq hSq
          go_simp
          exact rfl
        try simp only [Act.put, List.setIfInBounds_toArray, List.set_cons_zero, List.set_cons_succ]
        refine takeH 5 16 (v := ?vs5_5) rfl (by rfl) (by kernel_rfl) (by kernel_rfl) (by kernel_rfl) (fun _ _ _ h => h) (Or.inl ⟨by rfl, ?_⟩) (x_t_s2) ?_
        rotate_left
        · intro wq hSq
          go_simp
          exact rfl
        try simp only [Act.put, List.setIfInBounds_toArray, List.set_cons_zero, List.set_cons_succ]
        refine wpAnyH_ready (rs := [6]) (by kernel_rfl) (by simp) (AllReadyH.cons rfl (fun K hK => ?_) AllReadyH.nil)
        go_simp
        refine hK.out _ _ (Box.alloc x_t_s2 _) (fun _ => ?_); clear hK K
        have zz_t := (x_t_s2).lt
        have zB := Below.size Bs2
        have zK_NEW := Below.size K_NEW_s2
        have zK_TOK := Below.size KT2
        refine F_alloc (F := fun W => wpAnyH _ _ _ _ _ _ _ _ W) id0 rfl ?_
        intro Ws6 hS6 hbs6
        have x_t_s6 : Box Ws6 (w.heap.size) (V) := Box.below x_t_s2 hbs6
        have o_d1_s6 := Lib.hid (ownR_below OD1.out hbs6)
        have o_d2_s6 := Lib.hid (ownR_below OD2.out hbs6)
        have Bs6 := below_thru Bs2 hbs6
        have K_NEW_s6 := below_thru K_NEW_s2 hbs6
        have K_TOK_s6 := below_thru KT2 hbs6
        clear x_t_s2 OD1 OD2 Bs2 K_NEW_s2 KT2 hbs6
        obtain ⟨bS, hbS⟩ : ∃ b, Ws2.heap.size = b := ⟨_, rfl⟩
        rw [hbS] at hS6 zB zz_t zK_NEW zK_TOK ⊢; have zE := Nat.le_of_eq hbS; clear hbS
        refine wpAnyH_ready (rs := [7]) (by kernel_rfl) (by simp) (AllReadyH.cons rfl (fun K hK => ?_) AllReadyH.nil)
        refine step_store_box0 (cs := [.slice pd1 ([tkA] : List Tk).length nd1, .slice pd2 ([] : List Cmd).length nd2]) rfl rfl _ _ _ rfl hS6 rfl rfl (size_id12 _ _) rfl (one_id12 _ _ _ _ _ _) (fun Ws7 hW => ?_)
        have x_t_f := hW.past _ _ (by omega) x_t_s6
        have Bf := hW.below _ _ (by omega) Bs6; have Df := hW.box
        have IDf : IsD Ws7 (.agg #[.slice pd1 ([tkA] : List Tk).length nd1, .slice pd2 ([] : List Cmd).length nd2]) [tkA] [] := by
          first | exact ID.below (hW.below _ _ (by first | omega | (have := Below.size K_TOK_s6; omega)) K_TOK_s6) | exact ⟨_, _, rfl, IsR.own (ownR_stored hW o_d1_s6.out (by omega)) rfl rfl, IsR.own (ownR_stored hW o_d2_s6.out (by omega)) rfl rfl⟩
        refine hK.out _ _ x_t_f (fun _ => ?_); clear hK
        refine takeH 8 3 (v := ?vs8_8) rfl (by rfl) (by kernel_rfl) (by kernel_rfl) (by kernel_rfl) (fun _ _ _ h => h) (Or.inl ⟨by rfl, ?_⟩) (x_t_f) ?_
        rotate_left
        · intro wq hSq
          go_simp
          exact rfl
        try simp only [Act.put, List.setIfInBounds_toArray, List.set_cons_zero, List.set_cons_succ]
        refine wpAnyH_done (by kernel_rfl) ?_ _
        go_wp2_with fail
        go_meet
        exact ⟨bS, _, _, rfl, rfl, by omega, x_t_f, Df, Lib.hid IDf, Bf⟩
      · skip
        go_simp
        refine hK.out _ _ (Box.alloc x_t_s1 _) (fun _ => ?_); clear hK K
        have zz_t := (x_t_s1).lt
        have zB := Below.size Bs1
        have zK_NEW := Below.size KN1
        refine F_alloc (F := fun W => wpAnyH _ _ _ _ _ _ _ _ W) id0 rfl ?_
        intro Ws9 hS9 hbs9
        have x_t_s9 : Box Ws9 (w.heap.size) (V) := Box.below x_t_s1 hbs9
        have Bs9 := below_thru Bs1 hbs9
        have K_NEW_s9 := below_thru KN1 hbs9
        clear x_t_s1 Bs1 KN1 hbs9
        obtain ⟨bS, hbS⟩ : ∃ b, Ws1.heap.size = b := ⟨_, rfl⟩
        rw [hbS] at hS9 zB zz_t zK_NEW ⊢; have zE := Nat.le_of_eq hbS; clear hbS
        refine wpAnyH_ready (rs := [2]) (by kernel_rfl) (by simp) (AllReadyH.cons rfl (fun K hK => ?_) AllReadyH.nil)
        have zB1 := Below.size Bs9
        have zdT := (hS9).lt
        go_simp
        refine (P1 _ _ (IN.below K_NEW_s9)).mono ?_
        rintro e Ws10 ⟨d1, d2, rfl, od1, od2, hbs10⟩
        have ID : IsD Ws10 (.agg #[d1, d2]) [tkA] [] := ⟨_, _, rfl, IsR.own od1 rfl rfl, IsR.own od2 rfl rfl⟩
        obtain ⟨pd1, nd1, rfl⟩ := own_slR od1; obtain ⟨pd2, nd2, rfl⟩ := own_slR od2; have OD1 := Lib.hid od1; have OD2 := Lib.hid od2; clear od1 od2
        have x_t_s10 : Box Ws10 (w.heap.size) (V) := Box.below x_t_s9 hbs10
        have z_d_s10 : Box Ws10 (bS) (id0) := Box.below hS9 hbs10
        have Bs10 := below_thru Bs9 hbs10
        have K_NEW_s10 := below_thru K_NEW_s9 hbs10
        clear x_t_s9 hS9 Bs9 K_NEW_s9 hbs10
        have KT10 : Below Ws10.heap.size Ws10 Ws10 := Below.refl _ _
        refine hK.out _ _ x_t_s10 (fun _ => ?_); clear hK K
        refine takeH 3 11 (v := ?vs3_11) rfl (by rfl) (by kernel_rfl) (by kernel_rfl) (by kernel_rfl) (fun _ _ _ h => h) (Or.inl ⟨by rfl, ?_⟩) (x_t_s10) ?_
        rotate_left
        · intro wq hSq
          go_simp
          exact rfl
        try simp only [Act.put, List.setIfInBounds_toArray, List.set_cons_zero, List.set_cons_succ]
        refine takeH 4 15 (v := ?vs4_12) rfl (by rfl) (by kernel_rfl) (by kernel_rfl) (by kernel_rfl) (fun _ _ _ h => h) (Or.inl ⟨by rfl, ?_⟩) (x_t_s10) ?_
        rotate_left
        · intro wq hSq
          go_simp
          exact rfl
        try simp only [Act.put, List.setIfInBounds_toArray, List.set_cons_zero, List.set_cons_succ]
        refine takeH 5 16 (v := ?vs5_13) rfl (by rfl) (by kernel_rfl) (by kernel_rfl) (by kernel_rfl) (fun _ _ _ h => h) (Or.inl ⟨by rfl, ?_⟩) (x_t_s10) ?_
        rotate_left
        · intro wq hSq
          go_simp
          exact rfl
        try simp only [Act.put, List.setIfInBounds_toArray, List.set_cons_zero, List.set_cons_succ]
        refine wpAnyH_ready (rs := [7]) (by kernel_rfl) (by simp) (AllReadyH.cons rfl (fun K hK => ?_) AllReadyH.nil)
        refine step_store_box0 (cs := [.slice pd1 ([tkA] : List Tk).length nd1, .slice pd2 ([] : List Cmd).length nd2]) rfl rfl _ _ _ rfl z_d_s10 rfl rfl (size_id12 _ _) rfl (one_id12 _ _ _ _ _ _) (fun Ws14 hW => ?_)
        have x_t_f := hW.past _ _ (by omega) x_t_s10
        have Bf := hW.below _ _ (by omega) Bs10; have Df := hW.box
        have IDf : IsD Ws14 (.agg #[.slice pd1 ([tkA] : List Tk).length nd1, .slice pd2 ([] : List Cmd).length nd2]) [tkA] [] := by
          first | exact ID.below (hW.below _ _ (by first | omega | (have := Below.size KT10; omega)) KT10) | exact ⟨_, _, rfl, IsR.own (ownR_stored hW OD1.out (by omega)) rfl rfl, IsR.own (ownR_stored hW OD2.out (by omega)) rfl rfl⟩
        refine hK.out _ _ x_t_f (fun _ => ?_); clear hK
        refine takeH 8 3 (v := ?vs8_15) rfl (by rfl) (by kernel_rfl) (by kernel_rfl) (by kernel_rfl) (fun _ _ _ h => h) (Or.inl ⟨by rfl, ?_⟩) (x_t_f) ?_
        rotate_left
        · intro wq hSq
          go_simp
          exact rfl
        try simp only [Act.put, List.setIfInBounds_toArray, List.set_cons_zero, List.set_cons_succ]
        refine wpAnyH_done (by kernel_rfl) ?_ _
        go_wp2_with fail
        go_meet
        exact ⟨bS, _, _, rfl, rfl, by omega, x_t_f, Df, Lib.hid IDf, Bf⟩
    · skip
      go_simp
      refine hK.out _ _ (Box.alloc x_t_s0 _) (fun _ => ?_); clear hK K
      have zz_t := (x_t_s0).lt
      have zB := Below.size Bs0
      refine F_alloc (F := fun W => wpAnyH _ _ _ _ _ _ _ _ W) id0 rfl ?_
      intro Ws16 hS16 hbs16
      have x_t_s16 : Box Ws16 (w.heap.size) (V) := Box.below x_t_s0 hbs16
      have Bs16 := below_thru Bs0 hbs16
      clear x_t_s0 Bs0 hbs16
      obtain ⟨bS, hbS⟩ : ∃ b, Ws0.heap.size = b := ⟨_, rfl⟩
      rw [hbS] at hS16 zB zz_t  ⊢; have zE := Nat.le_of_eq hbS; clear hbS
      refine wpAnyH_ready (rs := [0]) (by kernel_rfl) (by simp) (AllReadyH.cons rfl (fun K hK => ?_) AllReadyH.nil)
      go_simp
      refine (NW _).mono ?_
      rintro e Ws17 ⟨n1, n2, rfl, on1, on2, hbs17⟩
      have IN : IsD Ws17 (.agg #[n1, n2]) [] [] := ⟨_, _, rfl, IsR.own on1 rfl rfl, IsR.own on2 rfl rfl⟩
      clear on1 on2
      have x_t_s17 : Box Ws17 (w.heap.size) (V) := Box.below x_t_s16 hbs17
      have z_d_s17 : Box Ws17 (bS) (id0) := Box.below hS16 hbs17
      have Bs17 := below_thru Bs16 hbs17
      clear x_t_s16 hS16 Bs16 hbs17
      have KN17 : Below Ws17.heap.size Ws17 Ws17 := Below.refl _ _
      refine hK.out _ _ x_t_s17 (fun _ => ?_); clear hK K
      refine wpAnyH_ready (rs := [2]) (by kernel_rfl) (by simp) (AllReadyH.cons rfl (fun K hK => ?_) AllReadyH.nil)
      have zB1 := Below.size Bs17
      have zdT := (z_d_s17).lt
      go_simp
      refine (P1 _ _ (IN.below KN17)).mono ?_
      rintro e Ws18 ⟨d1, d2, rfl, od1, od2, hbs18⟩
      have ID : IsD Ws18 (.agg #[d1, d2]) [tkA] [] := ⟨_, _, rfl, IsR.own od1 rfl rfl, IsR.own od2 rfl rfl⟩
      obtain ⟨pd1, nd1, rfl⟩ := own_slR od1; obtain ⟨pd2, nd2, rfl⟩ := own_slR od2; have OD1 := Lib.hid od1; have OD2 := Lib.hid od2; clear od1 od2
      have x_t_s18 : Box Ws18 (w.heap.size) (V) := Box.below x_t_s17 hbs18
      have z_d_s18 : Box Ws18 (bS) (id0) := Box.below z_d_s17 hbs18
      have Bs18 := below_thru Bs17 hbs18
      have K_NEW_s18 := below_thru KN17 hbs18
      clear x_t_s17 z_d_s17 Bs17 KN17 hbs18
      have KT18 : Below Ws18.heap.size Ws18 Ws18 := Below.refl _ _
      refine hK.out _ _ x_t_s18 (fun _ => ?_); clear hK K
      refine takeH 3 11 (v := ?vs3_19) rfl (by rfl) (by kernel_rfl) (by kernel_rfl) (by kernel_rfl) (fun _ _ _ h => h) (Or.inl ⟨by rfl, ?_⟩) (x_t_s18) ?_
      rotate_left
      · intro wq hSq
        go_simp
        exact rfl
      try simp only [Act.put, List.setIfInBounds_toArray, List.set_cons_zero, List.set_cons_succ]
      refine takeH 4 15 (v := ?vs4_20) rfl (by rfl) (by kernel_rfl) (by kernel_rfl) (by kernel_rfl) (fun _ _ _ h => h) (Or.inl ⟨by rfl, ?_⟩) (x_t_s18) ?_
      rotate_left
      · intro wq hSq
        go_simp
        exact rfl
      try simp only [Act.put, List.setIfInBounds_toArray, List.set_cons_zero, List.set_cons_succ]
      refine takeH 5 16 (v := ?vs5_21) rfl (by rfl) (by kernel_rfl) (by kernel_rfl) (by kernel_rfl) (fun _ _ _ h => h) (Or.inl ⟨by rfl, ?_⟩) (x_t_s18) ?_
      rotate_left
      · intro wq hSq
        go_simp
        exact rfl
      try simp only [Act.put, List.setIfInBounds_toArray, List.set_cons_zero, List.set_cons_succ]
      refine wpAnyH_ready (rs := [7]) (by kernel_rfl) (by simp) (AllReadyH.cons rfl (fun K hK => ?_) AllReadyH.nil)
      refine step_store_box0 (cs := [.slice pd1 ([tkA] : List Tk).length nd1, .slice pd2 ([] : List Cmd).length nd2]) rfl rfl _ _ _ rfl z_d_s18 rfl rfl (size_id12 _ _) rfl (one_id12 _ _ _ _ _ _) (fun Ws22 hW => ?_)
      have x_t_f := hW.past _ _ (by omega) x_t_s18
      have Bf := hW.below _ _ (by omega) Bs18; have Df := hW.box
      have IDf : IsD Ws22 (.agg #[.slice pd1 ([tkA] : List Tk).length nd1, .slice pd2 ([] : List Cmd).length nd2]) [tkA] [] := by
        first | exact ID.below (hW.below _ _ (by first | omega | (have := Below.size KT18; omega)) KT18) | exact ⟨_, _, rfl, IsR.own (ownR_stored hW OD1.out (by omega)) rfl rfl, IsR.own (ownR_stored hW OD2.out (by omega)) rfl rfl⟩
      refine hK.out _ _ x_t_f (fun _ => ?_); clear hK
      refine takeH 8 3 (v := ?vs8_23) rfl (by rfl) (by kernel_rfl) (by kernel_rfl) (by kernel_rfl) (fun _ _ _ h => h) (Or.inl ⟨by rfl, ?_⟩) (x_t_f) ?_
      rotate_left
      · intro wq hSq
        go_simp
        exact rfl
      try simp only [Act.put, List.setIfInBounds_toArray, List.set_cons_zero, List.set_cons_succ]
      refine wpAnyH_done (by kernel_rfl) ?_ _
      go_wp2_with fail
      go_meet
      exact ⟨bS, _, _, rfl, rfl, by omega, x_t_f, Df, Lib.hid IDf, Bf⟩
  case rest =>
    clear x_t1 hB1 hs1
    obtain ⟨bD, da, db, rfl, rfl, zD, y_t, y_d, ID, y_B⟩ := hcut
    obtain ⟨W3, rfl⟩ : ∃ u : World, u = wc := ⟨_, rfl⟩
    have x_t2 : Box W3 (w.heap.size) V := y_t; have x_d2 : Box W3 bD [da, db] := y_d; have hB2 : Below w.heap.size w W3 := y_B; have hs2 := hB2.size; clear y_t y_d y_B
    have K_W3_2 : Below W3.heap.size W3 W3 := Below.refl _ _
    have d_u_t := (x_t2).lt
    have d_u_d := (x_d2).lt
    have d_u_0 := hs2
    go_upto_region 4 with (first
      | (refine wpList_load_box9 rfl _ _ rfl x_t2 rfl Tryd.underlying31 rfl SV.out ?_)
      | (refine wpList_store_box (cs := V) rfl _ _ _ rfl (Box.newc (l := zT12) rfl rfl) rfl rfl SV.out LV.out OV.out ?_; intro W2_0 hW2_0))
    have hN : Below W3.heap.size W3 W2_0 := (hW2_0.below _ _ (by omega) ((Below.refl _ W3).alloc (Nat.le_refl _) _))
    have x_u3 : Box W2_0 (W3.heap.size) (V) := hW2_0.box
    have K_W3_3 : Below W3.heap.size W3 W2_0 := below_thru K_W3_2 hN
    clear K_W3_2
    have hB3 : Below w.heap.size w W2_0 := below_thru hB2 hN
    have hs3 := hB3.size
    have x_t3 : Box W2_0 (w.heap.size) (V) := Box.below x_t2 hN
    have x_d3 : Box W2_0 (bD) ([da, db]) := Box.below x_d2 hN
    clear hB2 hs2 x_t2 x_d2
    clear hN hW2_0
    have ce := (x_u3).c 4 _ c4
    have ze := (x_u3).lt
    have lq_t := (x_t3).lt
    have lq_d := (x_d3).lt
    have lq_u := (x_u3).lt
    go_upto_region 5 with (first | (refine wpList_store_cell (k := 4) (ws := U) (v := .int .u8 8) rfl _ _ _ rfl x_u3 rfl rfl rfl rfl size_u8n (by rw [N1.out]; decide) E1.out ?_; intro S3_0 hS3_0))
    have x_t4 : Box S3_0 (w.heap.size) (V) := (hS3_0.past _ _ (by omega) x_t3)
    have x_d4 : Box S3_0 (bD) ([da, db]) := (hS3_0.past _ _ (by omega) x_d3)
    have x_u4 := hS3_0.box
    have hB4 := (hS3_0.below _ _ (by omega) hB3); have hs4 := hB4.size
    have K_W3_4 := (hS3_0.below _ _ (by have := Below.size K_W3_3; omega) K_W3_3); clear K_W3_3
    clear x_t3 x_d3 x_u3 hB3 hs3 lq_t lq_d lq_u
    clear hS3_0
    clear ce ze
    go_wp2_with (first | (refine wpList_load_box9 rfl _ _ rfl x_d4 rfl Tryd.underlying25 rfl (size_id12 _ _) ?_) | (refine wpList_load_box9 rfl _ _ rfl x_u4 rfl Tryd.underlying31 rfl SU.out ?_))
    refine (P2 _ _ (ID.out.below K_W3_4)).mono ?_
    rintro e w5 ⟨f1, f2, rfl, of1, of2, hb⟩
    obtain ⟨pf1, nf1, rfl⟩ := own_slR of1; obtain ⟨pf2, nf2, rfl⟩ := own_slR of2; clear of1 of2
    have K_W3_5 : Below W3.heap.size W3 w5 := below_thru K_W3_4 hb
    clear K_W3_4
    have hB5 : Below w.heap.size w w5 := below_thru hB4 hb
    have hs5 := hB5.size
    have x_t5 : Box w5 (w.heap.size) (V) := Box.below x_t4 hb
    have x_d5 : Box w5 (bD) ([da, db]) := Box.below x_d4 hb
    have x_u5 : Box w5 (W3.heap.size) (U) := Box.below x_u4 hb
    clear hB4 hs4 x_t4 x_d4 x_u4
    clear hb
    have d_f_t := (x_t5).lt
    have d_f_d := (x_d5).lt
    have d_f_u := (x_u5).lt
    have d_f_0 := hs5
    go_upto_region 6 with (refine wpList_store_box (cs := [.slice pf1 ([] : List Tk).length nf1, .slice pf2 ([] : List Cmd).length nf2]) rfl _ _ _ rfl (Box.newc (l := id0) rfl rfl) rfl rfl (size_id12 _ _) rfl (one_id12 _ _ _ _ _ _) ?_; intro W5_0 hW5_0)
    have hN : Below w5.heap.size w5 W5_0 := (hW5_0.below _ _ (by omega) ((Below.refl _ w5).alloc (Nat.le_refl _) _))
    have x_f6 : Box W5_0 (w5.heap.size) ([.slice pf1 ([] : List Tk).length nf1, .slice pf2 ([] : List Cmd).length nf2]) := hW5_0.box
    have K_W3_6 : Below W3.heap.size W3 W5_0 := below_thru K_W3_5 hN
    clear K_W3_5
    have hB6 : Below w.heap.size w W5_0 := below_thru hB5 hN
    have hs6 := hB6.size
    have x_t6 : Box W5_0 (w.heap.size) (V) := Box.below x_t5 hN
    have x_d6 : Box W5_0 (bD) ([da, db]) := Box.below x_d5 hN
    have x_u6 : Box W5_0 (W3.heap.size) (U) := Box.below x_u5 hN
    clear hB5 hs5 x_t5 x_d5 x_u5
    clear hN hW5_0
    clear x_f6
    refine wp_region_held_drew (S := fun W => Box W (w.heap.size) (V) ∧ Box W (bD) ([da, db]) ∧ Box W (W3.heap.size) (U)) (by kernel_rfl) (And.intro (x_t6).drew (And.intro (x_d6).drew (x_u6).drew)) (fun _ => ?_)
    refine F_drew (F := fun W => wpAnyH _ _ _ _ _ _ _ _ W) ?_
    intro Wp0 hbp0
    clear hs6
    have x_t_p0 : Box Wp0 (w.heap.size) (V) := Box.below x_t6 hbp0
    have x_d_p0 : Box Wp0 (bD) ([da, db]) := Box.below x_d6 hbp0
    have x_u_p0 : Box Wp0 (W3.heap.size) (U) := Box.below x_u6 hbp0
    have Bp0 := below_thru hB6 hbp0
    have K_W3_p0 := below_thru K_W3_6 hbp0
    clear x_t6 x_d6 x_u6 hB6 K_W3_6 hbp0
    refine takeH 0 31 (v := .agg ([da, db]).toArray) rfl (by rfl) (by kernel_rfl) (by kernel_rfl) (by kernel_rfl) (fun _ _ _ h => h) (yieldsIf_load_mid (by rfl) _ _ rfl _ _ rfl ([da, db]) _ (fun wq hq => Box.range (hq.2.1)) Tryd.underlying25 rfl (size_id12 _ _)) ((And.intro x_t_p0 (And.intro x_d_p0 x_u_p0))) ?_
    try simp only [Act.put, List.setIfInBounds_toArray, List.set_cons_zero, List.set_cons_succ]
    refine takeH 1 32 (v := .agg (U).toArray) rfl (by rfl) (by kernel_rfl) (by kernel_rfl) (by kernel_rfl) (fun _ _ _ h => h) (yieldsIf_load_mid (by rfl) _ _ rfl _ _ rfl (U) _ (fun wq hq => Box.range (hq.2.2)) Tryd.underlying31 rfl SU.out) ((And.intro x_t_p0 (And.intro x_d_p0 x_u_p0))) ?_
    try simp only [Act.put, List.setIfInBounds_toArray, List.set_cons_zero, List.set_cons_succ]
    refine wpAnyH_ready (rs := [2]) (by kernel_rfl) (by simp) (AllReadyH.cons rfl (fun K hK => ?_) AllReadyH.nil)
    go_simp
    refine (QB1 _).mono ?_
    rintro e Wp1 ⟨rfl, hbp1⟩
    have x_t_p1 : Box Wp1 (w.heap.size) (V) := Box.below x_t_p0 hbp1
    have x_d_p1 : Box Wp1 (bD) ([da, db]) := Box.below x_d_p0 hbp1
    have x_u_p1 : Box Wp1 (W3.heap.size) (U) := Box.below x_u_p0 hbp1
    have Bp1 := below_thru Bp0 hbp1
    have K_W3_p1 := below_thru K_W3_p0 hbp1
    clear x_t_p0 x_d_p0 x_u_p0 Bp0 K_W3_p0 hbp1
    refine hK.out _ _ (And.intro x_t_p1 (And.intro x_d_p1 x_u_p1)) (fun _ => ?_); clear hK K
    refine wpAnyH_ready (rs := [3]) (by kernel_rfl) (by simp) (AllReadyH.cons rfl (fun K hK => ?_) AllReadyH.nil)
    go_simp
    refine (AB _ _ (ID.out.below K_W3_p1)).mono ?_
    rintro e Wp2 ⟨rfl, hbp2⟩
    have x_t_p2 : Box Wp2 (w.heap.size) (V) := Box.below x_t_p1 hbp2
    have x_d_p2 : Box Wp2 (bD) ([da, db]) := Box.below x_d_p1 hbp2
    have x_u_p2 : Box Wp2 (W3.heap.size) (U) := Box.below x_u_p1 hbp2
    have Bp2 := below_thru Bp1 hbp2
    have K_W3_p2 := below_thru K_W3_p1 hbp2
    clear x_t_p1 x_d_p1 x_u_p1 Bp1 K_W3_p1 hbp2
    refine hK.out _ _ (And.intro x_t_p2 (And.intro x_d_p2 x_u_p2)) (fun _ => ?_); clear hK K
    refine takeH 4 30 (v := ?vp4_3) rfl (by rfl) (by kernel_rfl) (by kernel_rfl) (by kernel_rfl) (fun _ _ _ h => h) (Or.inl ⟨by rfl, ?_⟩) ((And.intro x_t_p2 (And.intro x_d_p2 x_u_p2))) ?_
    rotate_left
    · intro wq hSq
      go_simp
      exact rfl
    try simp only [Act.put, List.setIfInBounds_toArray, List.set_cons_zero, List.set_cons_succ]
    refine takeH 5 35 (v := ?vp5_4) rfl (by rfl) (by kernel_rfl) (by kernel_rfl) (by kernel_rfl) (fun _ _ _ h => h) (Or.inl ⟨by rfl, ?_⟩) ((And.intro x_t_p2 (And.intro x_d_p2 x_u_p2))) ?_
    rotate_left
    · intro wq hSq
      go_simp
      exact rfl
    try simp only [Act.put, List.setIfInBounds_toArray, List.set_cons_zero, List.set_cons_succ]
    refine takeH 6 36 (v := ?vp6_5) rfl (by rfl) (by kernel_rfl) (by kernel_rfl) (by kernel_rfl) (fun _ _ _ h => h) (Or.inl ⟨by rfl, ?_⟩) ((And.intro x_t_p2 (And.intro x_d_p2 x_u_p2))) ?_
    rotate_left
    · intro wq hSq
      go_simp
      exact rfl
    try simp only [Act.put, List.setIfInBounds_toArray, List.set_cons_zero, List.set_cons_succ]
    refine takeH 7 7 (v := ?vp7_6) rfl (by rfl) (by kernel_rfl) (by kernel_rfl) (by kernel_rfl) (fun _ _ _ h => h) (Or.inl ⟨by rfl, ?_⟩) ((And.intro x_t_p2 (And.intro x_d_p2 x_u_p2))) ?_
    rotate_left
    · intro wq hSq
      go_simp
      exact rfl
    try simp only [Act.put, List.setIfInBounds_toArray, List.set_cons_zero, List.set_cons_succ]
    refine takeH 8 8 (v := ?vp8_7) rfl (by rfl) (by kernel_rfl) (by kernel_rfl) (by kernel_rfl) (fun _ _ _ h => h) (Or.inl ⟨by rfl, ?_⟩) ((And.intro x_t_p2 (And.intro x_d_p2 x_u_p2))) ?_
    rotate_left
    · intro wq hSq
      go_simp
      exact rfl
    try simp only [Act.put, List.setIfInBounds_toArray, List.set_cons_zero, List.set_cons_succ]
    refine wpAnyH_done (by kernel_rfl) ?_ _
    have hB7 := Bp2; have hs7 := hB7.size
    have x_t7 := x_t_p2
    have x_d7 := x_d_p2
    have x_u7 := x_u_p2
    have K_W3_7 := K_W3_p2
    clear Bp2 x_t_p2 x_d_p2 x_u_p2 K_W3_p2
    go_upto_region 7 with fail
    refine wp_region_held_drew (S := fun W => Box W (w.heap.size) (V) ∧ Box W (bD) ([da, db]) ∧ Box W (W3.heap.size) (U)) (by kernel_rfl) (And.intro (x_t7).drew (And.intro (x_d7).drew (x_u7).drew)) (fun _ => ?_)
    refine F_drew (F := fun W => wpAnyH _ _ _ _ _ _ _ _ W) ?_
    intro Wq0 hbq0
    clear hs7
    have x_t_q0 : Box Wq0 (w.heap.size) (V) := Box.below x_t7 hbq0
    have x_d_q0 : Box Wq0 (bD) ([da, db]) := Box.below x_d7 hbq0
    have x_u_q0 : Box Wq0 (W3.heap.size) (U) := Box.below x_u7 hbq0
    have Bq0 := below_thru hB7 hbq0
    have K_W3_q0 := below_thru K_W3_7 hbq0
    clear x_t7 x_d7 x_u7 hB7 K_W3_7 hbq0
    refine takeH 0 37 (v := ?vq0_1) rfl (by rfl) (by kernel_rfl) (by kernel_rfl) (by kernel_rfl) (fun _ _ _ h => h) (Or.inl ⟨by rfl, ?_⟩) ((And.intro x_t_q0 (And.intro x_d_q0 x_u_q0))) ?_
    rotate_left
    · intro wq hSq
      go_simp
      exact rfl
    try simp only [Act.put, List.setIfInBounds_toArray, List.set_cons_zero, List.set_cons_succ]
    refine takeH 1 38 (v := ?vq1_2) rfl (by rfl) (by kernel_rfl) (by kernel_rfl) (by kernel_rfl) (fun _ _ _ h => h) (Or.inl ⟨by rfl, ?_⟩) ((And.intro x_t_q0 (And.intro x_d_q0 x_u_q0))) ?_
    rotate_left
    · intro wq hSq
      go_simp
      exact rfl
    try simp only [Act.put, List.setIfInBounds_toArray, List.set_cons_zero, List.set_cons_succ]
    refine takeH 2 39 (v := ?vq2_3) rfl (by rfl) (by kernel_rfl) (by kernel_rfl) (by kernel_rfl) (fun _ _ _ h => h) (Or.inl ⟨by rfl, ?_⟩) ((And.intro x_t_q0 (And.intro x_d_q0 x_u_q0))) ?_
    rotate_left
    · intro wq hSq
      go_simp
      exact rfl
    try simp only [Act.put, List.setIfInBounds_toArray, List.set_cons_zero, List.set_cons_succ]
    refine takeH 3 40 (v := .agg ([da, db]).toArray) rfl (by rfl) (by kernel_rfl) (by kernel_rfl) (by kernel_rfl) (fun _ _ _ h => h) (yieldsIf_load_mid (by rfl) _ _ rfl _ _ rfl ([da, db]) _ (fun wq hq => Box.range (hq.2.1)) Tryd.underlying25 rfl (size_id12 _ _)) ((And.intro x_t_q0 (And.intro x_d_q0 x_u_q0))) ?_
    try simp only [Act.put, List.setIfInBounds_toArray, List.set_cons_zero, List.set_cons_succ]
    refine takeH 4 41 (v := .agg (V).toArray) rfl (by rfl) (by kernel_rfl) (by kernel_rfl) (by kernel_rfl) (fun _ _ _ h => h) (yieldsIf_load_mid (by rfl) _ _ rfl _ _ rfl (V) _ (fun wq hq => Box.range (hq.1)) Tryd.underlying31 rfl SV.out) ((And.intro x_t_q0 (And.intro x_d_q0 x_u_q0))) ?_
    try simp only [Act.put, List.setIfInBounds_toArray, List.set_cons_zero, List.set_cons_succ]
    refine wpAnyH_ready (rs := [5]) (by kernel_rfl) (by simp) (AllReadyH.cons rfl (fun K hK => ?_) AllReadyH.nil)
    go_simp
    refine (QA1 _).mono ?_
    rintro e Wq4 ⟨rfl, hbq4⟩
    have x_t_q4 : Box Wq4 (w.heap.size) (V) := Box.below x_t_q0 hbq4
    have x_d_q4 : Box Wq4 (bD) ([da, db]) := Box.below x_d_q0 hbq4
    have x_u_q4 : Box Wq4 (W3.heap.size) (U) := Box.below x_u_q0 hbq4
    have Bq4 := below_thru Bq0 hbq4
    have K_W3_q4 := below_thru K_W3_q0 hbq4
    clear x_t_q0 x_d_q0 x_u_q0 Bq0 K_W3_q0 hbq4
    refine hK.out _ _ (And.intro x_t_q4 (And.intro x_d_q4 x_u_q4)) (fun _ => ?_); clear hK K
    refine wpAnyH_ready (rs := [6]) (by kernel_rfl) (by simp) (AllReadyH.cons rfl (fun K hK => ?_) AllReadyH.nil)
    go_simp
    refine (A1 _ _ (ID.out.below K_W3_q4)).mono ?_
    rintro e Wq5 ⟨rfl, hbq5⟩
    have x_t_q5 : Box Wq5 (w.heap.size) (V) := Box.below x_t_q4 hbq5
    have x_d_q5 : Box Wq5 (bD) ([da, db]) := Box.below x_d_q4 hbq5
    have x_u_q5 : Box Wq5 (W3.heap.size) (U) := Box.below x_u_q4 hbq5
    have Bq5 := below_thru Bq4 hbq5
    have K_W3_q5 := below_thru K_W3_q4 hbq5
    clear x_t_q4 x_d_q4 x_u_q4 Bq4 K_W3_q4 hbq5
    refine hK.out _ _ (And.intro x_t_q5 (And.intro x_d_q5 x_u_q5)) (fun _ => ?_); clear hK K
    refine takeH 7 44 (v := ?vq7_6) rfl (by rfl) (by kernel_rfl) (by kernel_rfl) (by kernel_rfl) (fun _ _ _ h => h) (Or.inl ⟨by rfl, ?_⟩) ((And.intro x_t_q5 (And.intro x_d_q5 x_u_q5))) ?_
    rotate_left
    · intro wq hSq
      go_simp
      exact rfl
    try simp only [Act.put, List.setIfInBounds_toArray, List.set_cons_zero, List.set_cons_succ]
    refine takeH 8 45 (v := ?vq8_7) rfl (by rfl) (by kernel_rfl) (by kernel_rfl) (by kernel_rfl) (fun _ _ _ h => h) (Or.inl ⟨by rfl, ?_⟩) ((And.intro x_t_q5 (And.intro x_d_q5 x_u_q5))) ?_
    rotate_left
    · intro wq hSq
      go_simp
      exact rfl
    try simp only [Act.put, List.setIfInBounds_toArray, List.set_cons_zero, List.set_cons_succ]
    refine takeH 9 46 (v := .agg ([da, db]).toArray) rfl (by rfl) (by kernel_rfl) (by kernel_rfl) (by kernel_rfl) (fun _ _ _ h => h) (yieldsIf_load_mid (by rfl) _ _ rfl _ _ rfl ([da, db]) _ (fun wq hq => Box.range (hq.2.1)) Tryd.underlying25 rfl (size_id12 _ _)) ((And.intro x_t_q5 (And.intro x_d_q5 x_u_q5))) ?_
    try simp only [Act.put, List.setIfInBounds_toArray, List.set_cons_zero, List.set_cons_succ]
    refine takeH 10 47 (v := .agg (V).toArray) rfl (by rfl) (by kernel_rfl) (by kernel_rfl) (by kernel_rfl) (fun _ _ _ h => h) (yieldsIf_load_mid (by rfl) _ _ rfl _ _ rfl (V) _ (fun wq hq => Box.range (hq.1)) Tryd.underlying31 rfl SV.out) ((And.intro x_t_q5 (And.intro x_d_q5 x_u_q5))) ?_
    try simp only [Act.put, List.setIfInBounds_toArray, List.set_cons_zero, List.set_cons_succ]
    refine wpAnyH_ready (rs := [11]) (by kernel_rfl) (by simp) (AllReadyH.cons rfl (fun K hK => ?_) AllReadyH.nil)
    go_simp
    refine (QA2 _).mono ?_
    rintro e Wq8 ⟨rfl, hbq8⟩
    have x_t_q8 : Box Wq8 (w.heap.size) (V) := Box.below x_t_q5 hbq8
    have x_d_q8 : Box Wq8 (bD) ([da, db]) := Box.below x_d_q5 hbq8
    have x_u_q8 : Box Wq8 (W3.heap.size) (U) := Box.below x_u_q5 hbq8
    have Bq8 := below_thru Bq5 hbq8
    have K_W3_q8 := below_thru K_W3_q5 hbq8
    clear x_t_q5 x_d_q5 x_u_q5 Bq5 K_W3_q5 hbq8
    refine hK.out _ _ (And.intro x_t_q8 (And.intro x_d_q8 x_u_q8)) (fun _ => ?_); clear hK K
    refine wpAnyH_ready (rs := [12]) (by kernel_rfl) (by simp) (AllReadyH.cons rfl (fun K hK => ?_) AllReadyH.nil)
    go_simp
    refine (A2 _ _ (ID.out.below K_W3_q8)).mono ?_
    rintro e Wq9 ⟨rfl, hbq9⟩
    have x_t_q9 : Box Wq9 (w.heap.size) (V) := Box.below x_t_q8 hbq9
    have x_d_q9 : Box Wq9 (bD) ([da, db]) := Box.below x_d_q8 hbq9
    have x_u_q9 : Box Wq9 (W3.heap.size) (U) := Box.below x_u_q8 hbq9
    have Bq9 := below_thru Bq8 hbq9
    have K_W3_q9 := below_thru K_W3_q8 hbq9
    clear x_t_q8 x_d_q8 x_u_q8 Bq8 K_W3_q8 hbq9
    refine hK.out _ _ (And.intro x_t_q9 (And.intro x_d_q9 x_u_q9)) (fun _ => ?_); clear hK K
    refine takeH 13 50 (v := ?vq13_10) rfl (by rfl) (by kernel_rfl) (by kernel_rfl) (by kernel_rfl) (fun _ _ _ h => h) (Or.inl ⟨by rfl, ?_⟩) ((And.intro x_t_q9 (And.intro x_d_q9 x_u_q9))) ?_
    rotate_left
    · intro wq hSq
      go_simp
      exact rfl
    try simp only [Act.put, List.setIfInBounds_toArray, List.set_cons_zero, List.set_cons_succ]
    refine takeH 14 51 (v := ?vq14_11) rfl (by rfl) (by kernel_rfl) (by kernel_rfl) (by kernel_rfl) (fun _ _ _ h => h) (Or.inl ⟨by rfl, ?_⟩) ((And.intro x_t_q9 (And.intro x_d_q9 x_u_q9))) ?_
    rotate_left
    · intro wq hSq
      go_simp
      exact rfl
    try simp only [Act.put, List.setIfInBounds_toArray, List.set_cons_zero, List.set_cons_succ]
    refine takeH 15 52 (v := ?vq15_12) rfl (by rfl) (by kernel_rfl) (by kernel_rfl) (by kernel_rfl) (fun _ _ _ h => h) (Or.inl ⟨by rfl, ?_⟩) ((And.intro x_t_q9 (And.intro x_d_q9 x_u_q9))) ?_
    rotate_left
    · intro wq hSq
      go_simp
      exact rfl
    try simp only [Act.put, List.setIfInBounds_toArray, List.set_cons_zero, List.set_cons_succ]
    refine takeH 16 53 (v := ?vq16_13) rfl (by rfl) (by kernel_rfl) (by kernel_rfl) (by kernel_rfl) (fun _ _ _ h => h) (Or.inl ⟨by rfl, ?_⟩) ((And.intro x_t_q9 (And.intro x_d_q9 x_u_q9))) ?_
    rotate_left
    · intro wq hSq
      go_simp
      exact rfl
    try simp only [Act.put, List.setIfInBounds_toArray, List.set_cons_zero, List.set_cons_succ]
    refine takeH 17 54 (v := ?vq17_14) rfl (by rfl) (by kernel_rfl) (by kernel_rfl) (by kernel_rfl) (fun _ _ _ h => h) (Or.inl ⟨by rfl, ?_⟩) ((And.intro x_t_q9 (And.intro x_d_q9 x_u_q9))) ?_
    rotate_left
    · intro wq hSq
      go_simp
      exact rfl
    try simp only [Act.put, List.setIfInBounds_toArray, List.set_cons_zero, List.set_cons_succ]
    refine takeH 18 55 (v := ?vq18_15) rfl (by rfl) (by kernel_rfl) (by kernel_rfl) (by kernel_rfl) (fun _ _ _ h => h) (Or.inl ⟨by rfl, ?_⟩) ((And.intro x_t_q9 (And.intro x_d_q9 x_u_q9))) ?_
    rotate_left
    · intro wq hSq
      go_simp
      exact rfl
    try simp only [Act.put, List.setIfInBounds_toArray, List.set_cons_zero, List.set_cons_succ]
    refine takeH 19 56 (v := ?vq19_16) rfl (by rfl) (by kernel_rfl) (by kernel_rfl) (by kernel_rfl) (fun _ _ _ h => h) (Or.inl ⟨by rfl, ?_⟩) ((And.intro x_t_q9 (And.intro x_d_q9 x_u_q9))) ?_
    rotate_left
    · intro wq hSq
      go_simp
      exact rfl
    try simp only [Act.put, List.setIfInBounds_toArray, List.set_cons_zero, List.set_cons_succ]
    refine takeH 20 57 (v := ?vq20_17) rfl (by rfl) (by kernel_rfl) (by kernel_rfl) (by kernel_rfl) (fun _ _ _ h => h) (Or.inl ⟨by rfl, ?_⟩) ((And.intro x_t_q9 (And.intro x_d_q9 x_u_q9))) ?_
    rotate_left
    · intro wq hSq
      go_simp
      exact rfl
    try simp only [Act.put, List.setIfInBounds_toArray, List.set_cons_zero, List.set_cons_succ]
    refine takeH 21 58 (v := ?vq21_18) rfl (by rfl) (by kernel_rfl) (by kernel_rfl) (by kernel_rfl) (fun _ _ _ h => h) (Or.inl ⟨by rfl, ?_⟩) ((And.intro x_t_q9 (And.intro x_d_q9 x_u_q9))) ?_
    rotate_left
    · intro wq hSq
      go_simp
      exact rfl
    try simp only [Act.put, List.setIfInBounds_toArray, List.set_cons_zero, List.set_cons_succ]
    refine takeH 22 59 (v := ?vq22_19) rfl (by rfl) (by kernel_rfl) (by kernel_rfl) (by kernel_rfl) (fun _ _ _ h => h) (Or.inl ⟨by rfl, ?_⟩) ((And.intro x_t_q9 (And.intro x_d_q9 x_u_q9))) ?_
    rotate_left
    · intro wq hSq
      go_simp
      exact rfl
    try simp only [Act.put, List.setIfInBounds_toArray, List.set_cons_zero, List.set_cons_succ]
    refine takeH 23 60 (v := ?vq23_20) rfl (by rfl) (by kernel_rfl) (by kernel_rfl) (by kernel_rfl) (fun _ _ _ h => h) (Or.inl ⟨by rfl, ?_⟩) ((And.intro x_t_q9 (And.intro x_d_q9 x_u_q9))) ?_
    rotate_left
    · intro wq hSq
      go_simp
      exact rfl
    try simp only [Act.put, List.setIfInBounds_toArray, List.set_cons_zero, List.set_cons_succ]
    refine takeH 24 61 (v := ?vq24_21) rfl (by rfl) (by kernel_rfl) (by kernel_rfl) (by kernel_rfl) (fun _ _ _ h => h) (Or.inl ⟨by rfl, ?_⟩) ((And.intro x_t_q9 (And.intro x_d_q9 x_u_q9))) ?_
    rotate_left
    · intro wq hSq
      go_simp
      exact rfl
    try simp only [Act.put, List.setIfInBounds_toArray, List.set_cons_zero, List.set_cons_succ]
    refine takeH 25 62 (v := ?vq25_22) rfl (by rfl) (by kernel_rfl) (by kernel_rfl) (by kernel_rfl) (fun _ _ _ h => h) (Or.inl ⟨by rfl, ?_⟩) ((And.intro x_t_q9 (And.intro x_d_q9 x_u_q9))) ?_
    rotate_left
    · intro wq hSq
      go_simp
      exact rfl
    try simp only [Act.put, List.setIfInBounds_toArray, List.set_cons_zero, List.set_cons_succ]
    refine takeH 26 0 (v := ?vq26_23) rfl (by rfl) (by kernel_rfl) (by kernel_rfl) (by kernel_rfl) (fun _ _ _ h => h) (Or.inl ⟨by rfl, ?_⟩) ((And.intro x_t_q9 (And.intro x_d_q9 x_u_q9))) ?_
    rotate_left
    · intro wq hSq
      go_simp
      exact rfl
    try simp only [Act.put, List.setIfInBounds_toArray, List.set_cons_zero]
    refine wpAnyH_done (by kernel_rfl) ?_ _
    go_wp2_with fail
    go_returns
    exact ⟨rfl, Bq9⟩


end Go.Proofs.YtpccahdbienjeaaDoor
