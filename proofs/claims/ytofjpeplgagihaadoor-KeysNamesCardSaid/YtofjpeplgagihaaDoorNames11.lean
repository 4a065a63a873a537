/-
  KeysNames, walked.
-/
import Derived.Test.YtofjpeplgagihaaDoorAlive11
import Derived.Test.YtofjpeplgagihaaDoorGX3
import Derived.Test.YtofjpeplgagihaaDoorGO1
namespace Go.Proofs.YtofjpeplgagihaaDoor
open Go.RowKit

def sd11 : List Int := 1 :: List.replicate 30 0 ++ [2]
theorem sd11_l : sd11.length = 32 := by decide
theorem sd11_b : Byts sd11 := by show ∀ x ∈ sd11, _; decide
set_option maxRecDepth 100000 in
theorem build_sd (W : World) : (Instr.build 23 #[(0, .int .u8 1), (31, .int .u8 2)]).run Tryd.prog W = .ok (.agg (sd11.map (Value.int .u8)).toArray) W := by kernel_rfl
def g911 : List Int := 9 :: List.replicate 31 0
theorem g911_b : Byts g911 := by show ∀ x ∈ g911, _; decide
set_option maxRecDepth 100000 in
theorem build_g9 (W : World) : (Instr.build 23 #[(0, .int .u8 9)]).run Tryd.prog W = .ok (.agg (g911.map (Value.int .u8)).toArray) W := by kernel_rfl
/-- The three commands of the statement: one that revokes, one of 0 alone, one of a tenant that is too great. -/
def cR : Cmd := ⟨5, 4, 5, Lm.zero, Lm.zero, Lm.zero, 0, 0, 0, g911, by decide, by decide, by decide, by decide, by decide, by decide, by decide, g911_b⟩
def cD : Cmd := ⟨2, 16, 0, Lm.zero, Lm.zero, Lm.zero, 0, 0, 0, zeroD, by decide, by decide, by decide, by decide, by decide, by decide, zeroD_len, zeroD_byts⟩
set_option maxRecDepth 100000 in
theorem build_cR (W : World) : (Instr.build 37 #[(0, .int .u8 5), (1, .int .u32 4), (2, .int .u32 5), (7, .agg (g911.map (Value.int .u8)).toArray)]).run Tryd.prog W = .ok (.agg (ccell cR).toArray) W := by kernel_rfl
set_option maxRecDepth 100000 in
theorem build_cD (W : World) : (Instr.build 37 #[(0, .int .u8 2), (1, .int .u32 16)]).run Tryd.prog W = .ok (.agg (ccell cD).toArray) W := by kernel_rfl
theorem cR_ok : cR.Ok := ⟨by decide, Or.inr (Or.inr (Or.inr ⟨rfl, ⟨rfl, rfl, rfl⟩, rfl, rfl⟩))⟩
theorem cD_no : ¬ cD.Ok := fun h => absurd h.1 (by decide)
theorem cZ_no : ¬ Cmd.zero.Ok := by
  rintro ⟨_, h | h | h | h⟩
  · exact absurd h.1 (by decide)
  · exact absurd h.1 (by decide)
  · rcases h.1 with g | g <;> exact absurd g (by decide)
  · exact absurd h.1 (by decide)
theorem xor_b11 (x : Int) : 0 ≤ bits .xor .u8 x 1 ∧ bits .xor .u8 x 1 ≤ 255 := by
  unfold bits
  simp only [IntKind.wrap_u8]
  omega
theorem xor_n11 {x : Int} (h0 : 0 ≤ x) (h1 : x ≤ 255) : bits .xor .u8 x 1 ≠ x := by
  have h : ∀ n : Nat, n < 256 → bits .xor .u8 (n : Int) 1 ≠ (n : Int) := by decide +kernel
  have := h x.toNat (by omega)
  rwa [Int.toNat_of_nonneg h0] at this
/-- The tag of the command, and the one with its first bit turned. -/
def xD : List Int := cmdTag sd11 cR
theorem xD_l : xD.length = 32 := cmdTag_len _ _
theorem xD_b : Byts xD := cmdTag_byts _ _
theorem nth_mem11 {l : List Int} {i : Nat} (h : i < l.length) : nth l i ∈ l := by
  unfold nth
  rw [List.getD_eq_getElem?_getD, List.getElem?_eq_getElem h, Option.getD_some]
  exact List.getElem_mem h
theorem xD0 : 0 ≤ nth xD 0 ∧ nth xD 0 ≤ 255 := xD_b _ (nth_mem11 (by rw [xD_l]; decide))
def yD : List Int := xD.set 0 (bits .xor .u8 (nth xD 0) 1)
theorem yD_l : yD.length = 32 := by unfold yD; rw [List.length_set, xD_l]
theorem yD_b : Byts yD := fun x hx => by
  rcases List.mem_or_eq_of_mem_set hx with h | rfl
  · exact xD_b _ h
  · exact xor_b11 _
theorem yD_ne : cmdTag sd11 cR ≠ yD := fun h => by
  have e : nth xD 0 = nth yD 0 := congrArg (fun l => nth l 0) h
  unfold yD at e
  rw [show nth (xD.set 0 (bits .xor .u8 (nth xD 0) 1)) 0 = bits .xor .u8 (nth xD 0) 1 by
    unfold nth
    rw [List.getD_eq_getElem?_getD, List.getElem?_set_self (by rw [xD_l]; decide), Option.getD_some]] at e
  exact xor_n11 xD0.1 xD0.2 e.symm
theorem tagged_15 (c : Cmd) {D : List Int} (h : D.length = 32) (hb : Byts D) : (ccell (c.tagged D h hb))[15]? = some (.int .u8 (nth D 0)) := by
  show (D.map (Value.int .u8))[0]? = _
  rw [List.getElem?_map]
  have h : 0 < D.length := by rw [h]; decide
  unfold nth
  rw [List.getD_eq_getElem?_getD, List.getElem?_eq_getElem h]
  rfl
theorem tagged_set (c : Cmd) {D E : List Int} (h : D.length = 32) (hb : Byts D) (h2 : E.length = 32) (hb2 : Byts E) {x : Int} (e : E = D.set 0 x) : ccell (c.tagged E h2 hb2) = (ccell (c.tagged D h hb)).set 15 (.int .u8 x) := by
  subst e
  show _ :: _ :: _ :: _ :: _ :: _ :: _ :: _ :: _ :: _ :: _ :: _ :: _ :: _ :: _ :: (D.set 0 x).map (Value.int .u8) = _ :: _ :: _ :: _ :: _ :: _ :: _ :: _ :: _ :: _ :: _ :: _ :: _ :: _ :: _ :: (D.map (Value.int .u8)).set 0 _
  rw [List.map_set]
  rfl
theorem rig_sgn {S : List Int} {c : Cmd} (h : c.Ok) : RigOf S (Frm.cmd (c.sgn S)) true 0 := Or.inl ⟨rfl, Frm.cmd_ok h, ⟨fun _ => (Tru.of2 (f := Frm.cmd (c.sgn S)) rfl).2 rfl, fun _ => rfl⟩⟩
theorem rig_oth {S : List Int} {c : Cmd} {D : List Int} {hl : D.length = 32} {hb : Byts D} (h : c.Ok) (hn : cmdTag S c ≠ D) : RigOf S (Frm.cmd (c.tagged D hl hb)) false 0 := Or.inl ⟨rfl, Frm.cmd_ok h, ⟨fun g => (Bool.false_ne_true g).elim, fun g => absurd ((Tru.of2 (f := Frm.cmd (c.tagged D hl hb)) rfl).1 g) hn⟩⟩
def cX : Cmd := cR.tagged xD xD_l xD_b
def cY : Cmd := cR.tagged yD yD_l yD_b
theorem cX_15 : (ccell cX)[15]? = some (.int .u8 (nth xD 0)) := tagged_15 cR xD_l xD_b
theorem cY_set : ccell cY = (ccell cX).set 15 (.int .u8 (bits .xor .u8 (nth xD 0) 1)) := tagged_set cR xD_l xD_b yD_l yD_b rfl
theorem sgn_X : cR.sgn sd11 = cX := rfl
theorem sig_R : SigOf sd11 cR cX 0 := Or.inl ⟨rfl, cR_ok, sgn_X.symm⟩
theorem sig_Z : SigOf sd11 Cmd.zero Cmd.zero 8 := Or.inr ⟨rfl, cZ_no, rfl⟩
theorem sig_D : SigOf sd11 cD Cmd.zero 8 := Or.inr ⟨rfl, cD_no, rfl⟩
theorem rig_X : RigOf sd11 (Frm.cmd cX) true 0 := by
  rw [← sgn_X]
  exact rig_sgn cR_ok
theorem rig_Y : RigOf sd11 (Frm.cmd cY) false 0 := rig_oth cR_ok yD_ne
theorem rig_Z : RigOf sd11 Frm.zero false 8 := Or.inr ⟨rfl, Frm.zero_no, rfl⟩
/-- The numbers of the minted token, and those that are stored into it. -/
def nA : Nums := ⟨0, 4294967295, 0, 18446744073709551615, by decide, by decide, by decide, by decide⟩
def nB : Nums := ⟨0, 4294967295, 1000001, 18446744073709551615, by decide, by decide, by decide, by decide⟩
def nC : Nums := ⟨16, 4294967295, 1000001, 18446744073709551615, by decide, by decide, by decide, by decide⟩
def nE : Nums := ⟨16, 0, 0, 0, by decide, by decide, by decide, by decide⟩
def nF : Nums := ⟨0, 0, 4294967295, 0, by decide, by decide, by decide, by decide⟩
def mA : List Int := minted sd11 nA
theorem mA_l : mA.length = 32 := minted_len _ _
theorem mA_b : Byts mA := minted_byts _ _
theorem tok_A : TokOf sd11 nA nA mA 0 := Or.inl ⟨rfl, ⟨by decide, by decide⟩, rfl, rfl⟩
theorem tok_E : TokOf sd11 nE Nums.zero zeroD 2 := Or.inr ⟨rfl, fun h => absurd h.1 (by decide), rfl, rfl⟩
theorem tok_F : TokOf sd11 nF Nums.zero zeroD 2 := Or.inr ⟨rfl, fun h => absurd h.2 (by decide), rfl, rfl⟩
def rqL : Req := ⟨nB, mA, 1, 1, mA_l, mA_b, by decide, by decide⟩
def rqN : Req := ⟨nC, mA, 1, 1, mA_l, mA_b, by decide, by decide⟩
theorem rig_L : RigOf sd11 (Frm.req rqL) false 0 := Or.inl ⟨rfl, Frm.req_ok (by decide), ⟨fun h => (Bool.false_ne_true h).elim, fun h => absurd ((Tru.of1 (f := Frm.req rqL) (show (1 : Int) ≠ 2 by decide)).1 h).1.2 (by decide)⟩⟩
theorem rig_N : RigOf sd11 (Frm.req rqN) false 8 := Or.inr ⟨rfl, fun h => absurd ((Frm.req_iff rqN).1 h) (by decide), rfl⟩

set_option maxRecDepth 100000 in
set_option maxHeartbeats 6400000 in
theorem names11_is (w : World) (hL : Hid (LaidS w)) : Calls Tryd.prog 3 #[] w fun e w' => e = .returned (.bool true) ∧ Below w.heap.size w w' := by
  have TA := fun (W : World) (h : Hid (LaidS W)) => ten_is sd11_l sd11_b (t := 15) (p := 1000000) (by decide) (by decide) (Or.inl ⟨rfl, ⟨by decide, by decide⟩, rfl⟩) W h
  have TB := fun (W : World) (h : Hid (LaidS W)) => ten_is sd11_l sd11_b (t := 15) (p := 1000001) (by decide) (by decide) (Or.inr ⟨rfl, fun h => absurd h.2 (by decide), rfl⟩) W h
  have TC := fun (W : World) (h : Hid (LaidS W)) => ten_is sd11_l sd11_b (t := 4294967295) (p := 0) (by decide) (by decide) (Or.inr ⟨rfl, fun h => absurd h.1 (by decide), rfl⟩) W h
  have KA := fun (W : World) (h : Hid (LaidS W)) => token_is nA sd11_l sd11_b tok_A W h
  rw [show nA.t = 0 from rfl, show nA.u = 4294967295 from rfl, show nA.e = 0 from rfl, show nA.x = 18446744073709551615 from rfl] at KA
  have KE := fun (W : World) (h : Hid (LaidS W)) => token_is nE sd11_l sd11_b tok_E W h
  rw [show nE.t = 16 from rfl, show nE.u = 0 from rfl, show nE.e = 0 from rfl, show nE.x = 0 from rfl] at KE
  have KF := fun (W : World) (h : Hid (LaidS W)) => token_is nF sd11_l sd11_b tok_F W h
  rw [show nF.t = 0 from rfl, show nF.u = 0 from rfl, show nF.e = 4294967295 from rfl, show nF.x = 0 from rfl] at KF
  have GR := fun (W : World) (h : Hid (LaidS W)) => sign_is cR sd11_l sd11_b sig_R W h
  have GZ := fun (W : World) (h : Hid (LaidS W)) => sign_is Cmd.zero sd11_l sd11_b sig_Z W h
  have GD := fun (W : World) (h : Hid (LaidS W)) => sign_is cD sd11_l sd11_b sig_D W h
  have CX := fun W => lcmd11_is cX W; have CY := fun W => lcmd11_is cY W; have QL := fun W => lreq11_is rqL W; have QN := fun W => lreq11_is rqN W
  rw [show rqL.k = nB from rfl, show rqL.g = mA from rfl, show rqL.ep = 1 from rfl, show rqL.co = 1 from rfl] at QL
  rw [show rqN.k = nC from rfl, show rqN.g = mA from rfl, show rqN.ep = 1 from rfl, show rqN.co = 1 from rfl] at QN
  have RX := fun (W : World) (h : Hid (LaidS W)) => right_is _ sd11_l sd11_b rig_X W h
  have RY := fun (W : World) (h : Hid (LaidS W)) => right_is _ sd11_l sd11_b rig_Y W h
  have RZ := fun (W : World) (h : Hid (LaidS W)) => right_is _ sd11_l sd11_b rig_Z W h
  have RL := fun (W : World) (h : Hid (LaidS W)) => right_is _ sd11_l sd11_b rig_L W h
  have RN := fun (W : World) (h : Hid (LaidS W)) => right_is _ sd11_l sd11_b rig_N W h
  have BS := fun W => build_sd W; have B9 := fun W => build_g9 W; have BR := fun W => build_cR W; have BD := fun W => build_cD W; have BC := fun W => build_c0 W; have BM := fun W => build_m0 W
  have SS := Lib.hid (size_dig sd11_l); have LS := Lib.hid (len_dig sd11_l); have OS := Lib.hid (oneCell_ints (k := .u8) sd11)
  have ST := Lib.hid (size_dig (tkeyL_len sd11 15 1000000)); have LT := Lib.hid (len_dig (tkeyL_len sd11 15 1000000)); have OT := Lib.hid (oneCell_ints (k := .u8) (tkeyL sd11 15 1000000))
  have SY := Lib.hid (size_dig zd32); have LY := Lib.hid (len_dig zd32); have OY := Lib.hid (oneCell_ints (k := .u8) zeroD)
  have SA := Lib.hid (size_tok nA mA_l); have LA : Hid (zeroTk.length = (tcell nA mA).length) := Lib.hid (len_tok Nums.zero nA zd32 mA_l); have OA := Lib.hid (tcell_one nA mA)
  have SB := Lib.hid (size_tok nB mA_l); have LB : Hid (zeroTk.length = (tcell nB mA).length) := Lib.hid (len_tok Nums.zero nB zd32 mA_l); have OB := Lib.hid (tcell_one nB mA)
  have SC := Lib.hid (size_tok nC mA_l); have LC : Hid (zeroTk.length = (tcell nC mA).length) := Lib.hid (len_tok Nums.zero nC zd32 mA_l); have OC := Lib.hid (tcell_one nC mA)
  have SV := Lib.hid (size_tok Nums.zero zd32); have LV : Hid (zeroTk.length = (tcell Nums.zero zeroD).length) := Lib.hid (len_tok Nums.zero Nums.zero zd32 zd32); have OV := Lib.hid (tcell_one Nums.zero zeroD)
  have SX := Lib.hid (size_cmd cX); have LX := Lib.hid (len_cmd Cmd.zero cX); have OX := Lib.hid (one_cmd cX)
  have SW := Lib.hid (size_cmd cY); have LW := Lib.hid (len_cmd Cmd.zero cY); have OW := Lib.hid (one_cmd cY)
  have SZ := Lib.hid (size_cmd Cmd.zero); have OZ := Lib.hid (one_cmd Cmd.zero)
  have n1 : Hid ((tcell nA mA).length = 36) := Lib.hid (tcell_len _ mA_l); have n2 : Hid ((tcell nB mA).length = 36) := Lib.hid (tcell_len _ mA_l); have n3 : Hid ((ccell cX).length = 47) := Lib.hid (ccell_len _)
  have E1 : Hid (tcell nB mA = (tcell nA mA).set 2 (.int .u32 1000001)) := Lib.hid rfl; have E2 : Hid (tcell nC mA = (tcell nB mA).set 0 (.int .u32 16)) := Lib.hid rfl; have E3 := Lib.hid cY_set; have c15 := cX_15
  have p1 : (tcell nC mA)[1]? = some (.int .u32 4294967295) := rfl; have x2 : (ccell cY)[2]? = some (.int .u32 5) := rfl; have AL := fun (W : World) (h : Hid (LaidS W)) => alive11_is W h
  obtain ⟨x0, hx0⟩ : ∃ X, nth xD 0 = X := ⟨_, rfl⟩
  rw [hx0] at E3 c15
  clear hx0
  obtain ⟨MX, hMX⟩ : ∃ X, mcell (Frm.cmd cX) = X := ⟨_, rfl⟩
  rw [hMX] at CX RX
  clear hMX
  obtain ⟨MY, hMY⟩ : ∃ X, mcell (Frm.cmd cY) = X := ⟨_, rfl⟩
  rw [hMY] at CY RY
  clear hMY
  obtain ⟨ML, hML⟩ : ∃ X, mcell (Frm.req rqL) = X := ⟨_, rfl⟩
  rw [hML] at QL RL
  clear hML
  obtain ⟨MN, hMN⟩ : ∃ X, mcell (Frm.req rqN) = X := ⟨_, rfl⟩
  rw [hMN] at QN RN
  clear hMN
  obtain ⟨MZ, hMZ⟩ : ∃ X, mcell Frm.zero = X := ⟨_, rfl⟩
  rw [hMZ] at BM RZ
  clear hMZ
  obtain ⟨UX, hUX⟩ : ∃ X, ccell cX = X := ⟨_, rfl⟩
  rw [hUX] at GR CX SX LX OX E3 c15 n3
  clear hUX
  obtain ⟨UY, hUY⟩ : ∃ X, ccell cY = X := ⟨_, rfl⟩
  rw [hUY] at CY SW LW OW E3 x2
  clear hUY
  obtain ⟨UR, hUR⟩ : ∃ X, ccell cR = X := ⟨_, rfl⟩
  rw [hUR] at BR GR
  clear hUR
  obtain ⟨UD, hUD⟩ : ∃ X, ccell cD = X := ⟨_, rfl⟩
  rw [hUD] at BD GD
  clear hUD
  obtain ⟨PA, hPA⟩ : ∃ X, tcell nA mA = X := ⟨_, rfl⟩
  rw [hPA] at KA SA LA OA E1 n1
  clear hPA
  obtain ⟨PB, hPB⟩ : ∃ X, tcell nB mA = X := ⟨_, rfl⟩
  rw [hPB] at QL SB LB OB E1 E2 n2
  clear hPB
  obtain ⟨PC, hPC⟩ : ∃ X, tcell nC mA = X := ⟨_, rfl⟩
  rw [hPC] at QN SC LC OC E2 p1
  clear hPC
  obtain ⟨PZ, hPZ⟩ : ∃ X, tcell Nums.zero zeroD = X := ⟨_, rfl⟩
  rw [hPZ] at KE KF SV LV OV
  clear hPZ
  obtain ⟨DT, hDT⟩ : ∃ X, (tkeyL sd11 15 1000000).map (Value.int .u8) = X := ⟨_, rfl⟩
  rw [hDT] at TA ST LT OT
  clear hDT
  obtain ⟨DZ, hDZ⟩ : ∃ X, zeroD.map (Value.int .u8) = X := ⟨_, rfl⟩
  rw [hDZ] at TB TC SY LY OY
  clear hDZ
  obtain ⟨D9, hD9⟩ : ∃ X, g911.map (Value.int .u8) = X := ⟨_, rfl⟩
  rw [hD9] at B9 BR
  clear hD9
  obtain ⟨DS, hDS⟩ : ∃ X, sd11.map (Value.int .u8) = X := ⟨_, rfl⟩
  rw [hDS] at TA TB TC KA KE KF GR GZ GD RX RY RZ RL RN BS SS LS OS
  clear hDS
  clear LB OB LC OC LW OW
  go_enter Tryd.func3, Tryd.ntmps3
  have hB0 := Below.refl w.heap.size w
  have hs0 := hB0.size
  have d_s_0 := hs0
  go_upto_region 2 with (first
    | (refine wpList_build9 rfl 23 _ rfl (us := #[(0, .int .u8 1), (31, .int .u8 2)]) (by rfl) (BS _) ?_)
    | (refine wpList_store_box (cs := DS) rfl _ _ _ rfl (Box.newc (l := zero32) rfl rfl) rfl rfl SS.out LS.out OS.out ?_; intro W0_0 hW0_0))
  have hN : Below w.heap.size w W0_0 := (hW0_0.below _ _ (by omega) ((Below.refl _ w).alloc (Nat.le_refl _) _))
  have x_s1 : Box W0_0 (w.heap.size) (DS) := hW0_0.box
  have hB1 : Below w.heap.size w W0_0 := below_thru hB0 hN
  have hs1 := hB1.size
  clear hB0 hs0
  clear hN hW0_0
  go_wp2_with (refine wpList_load_box9 rfl _ _ rfl x_s1 rfl Tryd.underlying23 rfl SS.out ?_)
  refine (TA _ (Lib.hid (hL.out.below hB1))).mono ?_
  rintro e w2 ⟨rfl, hb⟩
  have hB2 : Below w.heap.size w w2 := below_thru hB1 hb
  have hs2 := hB2.size
  have x_s2 : Box w2 (w.heap.size) (DS) := Box.below x_s1 hb
  clear hB1 hs1 x_s1
  clear hb
  have d_y3_s := (x_s2).lt
  have d_y3_0 := hs2
  go_upto_region 3 with (refine wpList_store_box (cs := DT) rfl _ _ _ rfl (Box.newc (l := zero32) rfl rfl) rfl rfl ST.out LT.out OT.out ?_; intro W2_0 hW2_0)
  have hN : Below w2.heap.size w2 W2_0 := (hW2_0.below _ _ (by omega) ((Below.refl _ w2).alloc (Nat.le_refl _) _))
  have x_y33 : Box W2_0 (w2.heap.size) (DT) := hW2_0.box
  have hB3 : Below w.heap.size w W2_0 := below_thru hB2 hN
  have hs3 := hB3.size
  have x_s3 : Box W2_0 (w.heap.size) (DS) := Box.below x_s2 hN
  clear hB2 hs2 x_s2
  clear hN hW2_0
  clear x_y33
  go_wp2_with (refine wpList_load_box9 rfl _ _ rfl x_s3 rfl Tryd.underlying23 rfl SS.out ?_)
  refine (TB _ (Lib.hid (hL.out.below hB3))).mono ?_
  rintro e w4 ⟨rfl, hb⟩
  have hB4 : Below w.heap.size w w4 := below_thru hB3 hb
  have hs4 := hB4.size
  have x_s4 : Box w4 (w.heap.size) (DS) := Box.below x_s3 hb
  clear hB3 hs3 x_s3
  clear hb
  have d_y4_s := (x_s4).lt
  have d_y4_0 := hs4
  go_upto_region 4 with (refine wpList_store_box (cs := DZ) rfl _ _ _ rfl (Box.newc (l := zero32) rfl rfl) rfl rfl SY.out LY.out OY.out ?_; intro W4_0 hW4_0)
  have hN : Below w4.heap.size w4 W4_0 := (hW4_0.below _ _ (by omega) ((Below.refl _ w4).alloc (Nat.le_refl _) _))
  have x_y45 : Box W4_0 (w4.heap.size) (DZ) := hW4_0.box
  have hB5 : Below w.heap.size w W4_0 := below_thru hB4 hN
  have hs5 := hB5.size
  have x_s5 : Box W4_0 (w.heap.size) (DS) := Box.below x_s4 hN
  clear hB4 hs4 x_s4
  clear hN hW4_0
  clear x_y45
  go_wp2_with (refine wpList_load_box9 rfl _ _ rfl x_s5 rfl Tryd.underlying23 rfl SS.out ?_)
  refine (TC _ (Lib.hid (hL.out.below hB5))).mono ?_
  rintro e w6 ⟨rfl, hb⟩
  have hB6 : Below w.heap.size w w6 := below_thru hB5 hb
  have hs6 := hB6.size
  have x_s6 : Box w6 (w.heap.size) (DS) := Box.below x_s5 hb
  clear hB5 hs5 x_s5
  clear hb
  have d_y5_s := (x_s6).lt
  have d_y5_0 := hs6
  go_upto_region 5 with (refine wpList_store_box (cs := DZ) rfl _ _ _ rfl (Box.newc (l := zero32) rfl rfl) rfl rfl SY.out LY.out OY.out ?_; intro W6_0 hW6_0)
  have hN : Below w6.heap.size w6 W6_0 := (hW6_0.below _ _ (by omega) ((Below.refl _ w6).alloc (Nat.le_refl _) _))
  have x_y57 : Box W6_0 (w6.heap.size) (DZ) := hW6_0.box
  have hB7 : Below w.heap.size w W6_0 := below_thru hB6 hN
  have hs7 := hB7.size
  have x_s7 : Box W6_0 (w.heap.size) (DS) := Box.below x_s6 hN
  clear hB6 hs6 x_s6
  clear hN hW6_0
  clear x_y57
  go_wp2_with (refine wpList_load_box9 rfl _ _ rfl x_s7 rfl Tryd.underlying23 rfl SS.out ?_)
  refine (KA _ (Lib.hid (hL.out.below hB7))).mono ?_
  rintro e w8 ⟨rfl, hb⟩
  have hB8 : Below w.heap.size w w8 := below_thru hB7 hb
  have hs8 := hB8.size
  have x_s8 : Box w8 (w.heap.size) (DS) := Box.below x_s7 hb
  clear hB7 hs7 x_s7
  clear hb
  have d_t_s := (x_s8).lt
  have d_t_0 := hs8
  go_upto_region 6 with (refine wpList_store_box (cs := PA) rfl _ _ _ rfl (Box.newc (l := zeroTk) rfl rfl) rfl rfl SA.out LA.out OA.out ?_; intro W8_0 hW8_0)
  have hN : Below w8.heap.size w8 W8_0 := (hW8_0.below _ _ (by omega) ((Below.refl _ w8).alloc (Nat.le_refl _) _))
  have x_t9 : Box W8_0 (w8.heap.size) (PA) := hW8_0.box
  have hB9 : Below w.heap.size w W8_0 := below_thru hB8 hN
  have hs9 := hB9.size
  have x_s9 : Box W8_0 (w.heap.size) (DS) := Box.below x_s8 hN
  clear hB8 hs8 x_s8
  clear hN hW8_0
  go_wp2_with (refine wpList_load_box9 rfl _ _ rfl x_s9 rfl Tryd.underlying23 rfl SS.out ?_)
  refine (KE _ (Lib.hid (hL.out.below hB9))).mono ?_
  rintro e w10 ⟨rfl, hb⟩
  have hB10 : Below w.heap.size w w10 := below_thru hB9 hb
  have hs10 := hB10.size
  have x_s10 : Box w10 (w.heap.size) (DS) := Box.below x_s9 hb
  have x_t10 : Box w10 (w8.heap.size) (PA) := Box.below x_t9 hb
  clear hB9 hs9 x_s9 x_t9
  clear hb
  have d_y7_s := (x_s10).lt
  have d_y7_t := (x_t10).lt
  have d_y7_0 := hs10
  go_upto_region 7 with (refine wpList_store_box (cs := PZ) rfl _ _ _ rfl (Box.newc (l := zeroTk) rfl rfl) rfl rfl SV.out LV.out OV.out ?_; intro W10_0 hW10_0)
  have hN : Below w10.heap.size w10 W10_0 := (hW10_0.below _ _ (by omega) ((Below.refl _ w10).alloc (Nat.le_refl _) _))
  have x_y711 : Box W10_0 (w10.heap.size) (PZ) := hW10_0.box
  have hB11 : Below w.heap.size w W10_0 := below_thru hB10 hN
  have hs11 := hB11.size
  have x_s11 : Box W10_0 (w.heap.size) (DS) := Box.below x_s10 hN
  have x_t11 : Box W10_0 (w8.heap.size) (PA) := Box.below x_t10 hN
  clear hB10 hs10 x_s10 x_t10
  clear hN hW10_0
  clear x_y711
  go_wp2_with (refine wpList_load_box9 rfl _ _ rfl x_s11 rfl Tryd.underlying23 rfl SS.out ?_)
  refine (KF _ (Lib.hid (hL.out.below hB11))).mono ?_
  rintro e w12 ⟨rfl, hb⟩
  have hB12 : Below w.heap.size w w12 := below_thru hB11 hb
  have hs12 := hB12.size
  have x_s12 : Box w12 (w.heap.size) (DS) := Box.below x_s11 hb
  have x_t12 : Box w12 (w8.heap.size) (PA) := Box.below x_t11 hb
  clear hB11 hs11 x_s11 x_t11
  clear hb
  have d_y8_s := (x_s12).lt
  have d_y8_t := (x_t12).lt
  have d_y8_0 := hs12
  go_upto_region 8 with (refine wpList_store_box (cs := PZ) rfl _ _ _ rfl (Box.newc (l := zeroTk) rfl rfl) rfl rfl SV.out LV.out OV.out ?_; intro W12_0 hW12_0)
  have hN : Below w12.heap.size w12 W12_0 := (hW12_0.below _ _ (by omega) ((Below.refl _ w12).alloc (Nat.le_refl _) _))
  have x_y813 : Box W12_0 (w12.heap.size) (PZ) := hW12_0.box
  have hB13 : Below w.heap.size w W12_0 := below_thru hB12 hN
  have hs13 := hB13.size
  have x_s13 : Box W12_0 (w.heap.size) (DS) := Box.below x_s12 hN
  have x_t13 : Box W12_0 (w8.heap.size) (PA) := Box.below x_t12 hN
  clear hB12 hs12 x_s12 x_t12
  clear hN hW12_0
  clear x_y813
  go_wp2_with (first
    | (refine wpList_load_box9 rfl _ _ rfl x_s13 rfl Tryd.underlying23 rfl SS.out ?_)
    | (refine wpList_build9 rfl 23 _ rfl (us := #[(0, .int .u8 9)]) (by rfl) (B9 _) ?_)
    | (refine wpList_build9 rfl 37 _ rfl (us := #[(0, .int .u8 5), (1, .int .u32 4), (2, .int .u32 5), (7, .agg D9.toArray)]) (by rfl) (BR _) ?_))
  refine (GR _ (Lib.hid (hL.out.below hB13))).mono ?_
  rintro e w14 ⟨rfl, hb⟩
  have hB14 : Below w.heap.size w w14 := below_thru hB13 hb
  have hs14 := hB14.size
  have x_s14 : Box w14 (w.heap.size) (DS) := Box.below x_s13 hb
  have x_t14 : Box w14 (w8.heap.size) (PA) := Box.below x_t13 hb
  clear hB13 hs13 x_s13 x_t13
  clear hb
  have d_x_s := (x_s14).lt
  have d_x_t := (x_t14).lt
  have d_x_0 := hs14
  go_upto_region 9 with (refine wpList_store_box (cs := UX) rfl _ _ _ rfl (Box.newc (l := ccell Cmd.zero) rfl rfl) rfl rfl SX.out LX.out OX.out ?_; intro W14_0 hW14_0)
  have hN : Below w14.heap.size w14 W14_0 := (hW14_0.below _ _ (by omega) ((Below.refl _ w14).alloc (Nat.le_refl _) _))
  have x_x15 : Box W14_0 (w14.heap.size) (UX) := hW14_0.box
  have hB15 : Below w.heap.size w W14_0 := below_thru hB14 hN
  have hs15 := hB15.size
  have x_s15 : Box W14_0 (w.heap.size) (DS) := Box.below x_s14 hN
  have x_t15 : Box W14_0 (w8.heap.size) (PA) := Box.below x_t14 hN
  clear hB14 hs14 x_s14 x_t14
  clear hN hW14_0
  go_wp2_with (first
    | (refine wpList_load_box9 rfl _ _ rfl x_s15 rfl Tryd.underlying23 rfl SS.out ?_)
    | (refine wpList_build9 rfl 37 _ rfl (us := #[]) (by rfl) (BC _) ?_))
  refine (GZ _ (Lib.hid (hL.out.below hB15))).mono ?_
  rintro e w16 ⟨rfl, hb⟩
  have hB16 : Below w.heap.size w w16 := below_thru hB15 hb
  have hs16 := hB16.size
  have x_s16 : Box w16 (w.heap.size) (DS) := Box.below x_s15 hb
  have x_t16 : Box w16 (w8.heap.size) (PA) := Box.below x_t15 hb
  have x_x16 : Box w16 (w14.heap.size) (UX) := Box.below x_x15 hb
  clear hB15 hs15 x_s15 x_t15 x_x15
  clear hb
  have d_y10_s := (x_s16).lt
  have d_y10_t := (x_t16).lt
  have d_y10_x := (x_x16).lt
  have d_y10_0 := hs16
  go_upto_region 10 with (refine wpList_store_box (cs := ccell Cmd.zero) rfl _ _ _ rfl (Box.newc (l := ccell Cmd.zero) rfl rfl) rfl rfl SZ.out (len_cmd Cmd.zero Cmd.zero) OZ.out ?_; intro W16_0 hW16_0)
  have hN : Below w16.heap.size w16 W16_0 := (hW16_0.below _ _ (by omega) ((Below.refl _ w16).alloc (Nat.le_refl _) _))
  have x_y1017 : Box W16_0 (w16.heap.size) (ccell Cmd.zero) := hW16_0.box
  have hB17 : Below w.heap.size w W16_0 := below_thru hB16 hN
  have hs17 := hB17.size
  have x_s17 : Box W16_0 (w.heap.size) (DS) := Box.below x_s16 hN
  have x_t17 : Box W16_0 (w8.heap.size) (PA) := Box.below x_t16 hN
  have x_x17 : Box W16_0 (w14.heap.size) (UX) := Box.below x_x16 hN
  clear hB16 hs16 x_s16 x_t16 x_x16
  clear hN hW16_0
  clear x_y1017
  go_wp2_with (first
    | (refine wpList_load_box9 rfl _ _ rfl x_s17 rfl Tryd.underlying23 rfl SS.out ?_)
    | (refine wpList_build9 rfl 37 _ rfl (us := #[(0, .int .u8 2), (1, .int .u32 16)]) (by rfl) (BD _) ?_))
  refine (GD _ (Lib.hid (hL.out.below hB17))).mono ?_
  rintro e w18 ⟨rfl, hb⟩
  have hB18 : Below w.heap.size w w18 := below_thru hB17 hb
  have hs18 := hB18.size
  have x_s18 : Box w18 (w.heap.size) (DS) := Box.below x_s17 hb
  have x_t18 : Box w18 (w8.heap.size) (PA) := Box.below x_t17 hb
  have x_x18 : Box w18 (w14.heap.size) (UX) := Box.below x_x17 hb
  clear hB17 hs17 x_s17 x_t17 x_x17
  clear hb
  have d_y11_s := (x_s18).lt
  have d_y11_t := (x_t18).lt
  have d_y11_x := (x_x18).lt
  have d_y11_0 := hs18
  go_upto_region 11 with (refine wpList_store_box (cs := ccell Cmd.zero) rfl _ _ _ rfl (Box.newc (l := ccell Cmd.zero) rfl rfl) rfl rfl SZ.out (len_cmd Cmd.zero Cmd.zero) OZ.out ?_; intro W18_0 hW18_0)
  have hN : Below w18.heap.size w18 W18_0 := (hW18_0.below _ _ (by omega) ((Below.refl _ w18).alloc (Nat.le_refl _) _))
  have x_y1119 : Box W18_0 (w18.heap.size) (ccell Cmd.zero) := hW18_0.box
  have hB19 : Below w.heap.size w W18_0 := below_thru hB18 hN
  have hs19 := hB19.size
  have x_s19 : Box W18_0 (w.heap.size) (DS) := Box.below x_s18 hN
  have x_t19 : Box W18_0 (w8.heap.size) (PA) := Box.below x_t18 hN
  have x_x19 : Box W18_0 (w14.heap.size) (UX) := Box.below x_x18 hN
  clear hB18 hs18 x_s18 x_t18 x_x18
  clear hN hW18_0
  clear x_y1119
  refine wp_region_held_drew (S := fun W => Box W (w.heap.size) (DS) ∧ Box W (w8.heap.size) (PA) ∧ Box W (w14.heap.size) (UX)) (by kernel_rfl) (And.intro (x_s19).drew (And.intro (x_t19).drew (x_x19).drew)) (fun _ => ?_)
  refine F_drew (F := fun W => wpAnyH _ _ _ _ _ _ _ _ W) ?_
  intro Wp0 hbp0
  clear hs19
  have x_s_p0 : Box Wp0 (w.heap.size) (DS) := Box.below x_s19 hbp0
  have x_t_p0 : Box Wp0 (w8.heap.size) (PA) := Box.below x_t19 hbp0
  have x_x_p0 : Box Wp0 (w14.heap.size) (UX) := Box.below x_x19 hbp0
  have Bp0 := below_thru hB19 hbp0
  clear x_s19 x_t19 x_x19 hB19 hbp0
  refine takeH 0 82 (v := .agg (DS).toArray) rfl (by rfl) (by kernel_rfl) (by kernel_rfl) (by kernel_rfl) (fun _ _ _ h => h) (yieldsIf_load_mid (by rfl) _ _ rfl _ _ rfl (DS) _ (fun wq hq => Box.range (hq.1)) Tryd.underlying23 rfl SS.out) ((And.intro x_s_p0 (And.intro x_t_p0 x_x_p0))) ?_
  try simp only [Act.put, List.setIfInBounds_toArray, List.set_cons_zero, List.set_cons_succ]
  refine takeH 1 83 (v := .agg (UX).toArray) rfl (by rfl) (by kernel_rfl) (by kernel_rfl) (by kernel_rfl) (fun _ _ _ h => h) (yieldsIf_load_mid (by rfl) _ _ rfl _ _ rfl (UX) _ (fun wq hq => Box.range (hq.2.2)) Tryd.underlying37 rfl SX.out) ((And.intro x_s_p0 (And.intro x_t_p0 x_x_p0))) ?_
  try simp only [Act.put, List.setIfInBounds_toArray, List.set_cons_zero, List.set_cons_succ]
  refine wpAnyH_ready (rs := [2]) (by kernel_rfl) (by simp) (AllReadyH.cons rfl (fun K hK => ?_) AllReadyH.nil)
  go_simp
  refine (CX _).mono ?_
  rintro e Wp1 ⟨rfl, hbp1⟩
  have x_s_p1 : Box Wp1 (w.heap.size) (DS) := Box.below x_s_p0 hbp1
  have x_t_p1 : Box Wp1 (w8.heap.size) (PA) := Box.below x_t_p0 hbp1
  have x_x_p1 : Box Wp1 (w14.heap.size) (UX) := Box.below x_x_p0 hbp1
  have Bp1 := below_thru Bp0 hbp1
  clear x_s_p0 x_t_p0 x_x_p0 Bp0 hbp1
  refine hK.out _ _ (And.intro x_s_p1 (And.intro x_t_p1 x_x_p1)) (fun _ => ?_); clear hK K
  refine wpAnyH_ready (rs := [3]) (by kernel_rfl) (by simp) (AllReadyH.cons rfl (fun K hK => ?_) AllReadyH.nil)
  go_simp
  refine (RX _ (Lib.hid (hL.out.below Bp1))).mono ?_
  rintro e Wp2 ⟨rfl, hbp2⟩
  have x_s_p2 : Box Wp2 (w.heap.size) (DS) := Box.below x_s_p1 hbp2
  have x_t_p2 : Box Wp2 (w8.heap.size) (PA) := Box.below x_t_p1 hbp2
  have x_x_p2 : Box Wp2 (w14.heap.size) (UX) := Box.below x_x_p1 hbp2
  have Bp2 := below_thru Bp1 hbp2
  clear x_s_p1 x_t_p1 x_x_p1 Bp1 hbp2
  refine hK.out _ _ (And.intro x_s_p2 (And.intro x_t_p2 x_x_p2)) (fun _ => ?_); clear hK K
  refine takeH 4 81 (v := ?vp4_3) rfl (by rfl) (by kernel_rfl) (by kernel_rfl) (by kernel_rfl) (fun _ _ _ h => h) (Or.inl ⟨by rfl, ?_⟩) ((And.intro x_s_p2 (And.intro x_t_p2 x_x_p2))) ?_
  rotate_left
  · intro wq hSq
    go_simp
    exact rfl
  try simp only [Act.put, List.setIfInBounds_toArray, List.set_cons_zero, List.set_cons_succ]
  refine takeH 5 86 (v := ?vp5_4) rfl (by rfl) (by kernel_rfl) (by kernel_rfl) (by kernel_rfl) (fun _ _ _ h => h) (Or.inl ⟨by rfl, ?_⟩) ((And.intro x_s_p2 (And.intro x_t_p2 x_x_p2))) ?_
  rotate_left
  · intro wq hSq
    go_simp
    exact rfl
  try simp only [Act.put, List.setIfInBounds_toArray, List.set_cons_zero, List.set_cons_succ]
  refine takeH 6 87 (v := ?vp6_5) rfl (by rfl) (by kernel_rfl) (by kernel_rfl) (by kernel_rfl) (fun _ _ _ h => h) (Or.inl ⟨by rfl, ?_⟩) ((And.intro x_s_p2 (And.intro x_t_p2 x_x_p2))) ?_
  rotate_left
  · intro wq hSq
    go_simp
    exact rfl
  try simp only [Act.put, List.setIfInBounds_toArray, List.set_cons_zero, List.set_cons_succ]
  refine takeH 7 20 (v := ?vp7_6) rfl (by rfl) (by kernel_rfl) (by kernel_rfl) (by kernel_rfl) (fun _ _ _ h => h) (Or.inl ⟨by rfl, ?_⟩) ((And.intro x_s_p2 (And.intro x_t_p2 x_x_p2))) ?_
  rotate_left
  · intro wq hSq
    go_simp
    exact rfl
  try simp only [Act.put, List.setIfInBounds_toArray, List.set_cons_zero, List.set_cons_succ]
  refine takeH 8 21 (v := ?vp8_7) rfl (by rfl) (by kernel_rfl) (by kernel_rfl) (by kernel_rfl) (fun _ _ _ h => h) (Or.inl ⟨by rfl, ?_⟩) ((And.intro x_s_p2 (And.intro x_t_p2 x_x_p2))) ?_
  rotate_left
  · intro wq hSq
    go_simp
    exact rfl
  try simp only [Act.put, List.setIfInBounds_toArray, List.set_cons_zero, List.set_cons_succ]
  refine wpAnyH_done (by kernel_rfl) ?_ _
  have hB20 := Bp2; have hs20 := hB20.size
  have x_s20 := x_s_p2
  have x_t20 := x_t_p2
  have x_x20 := x_x_p2
  clear Bp2 x_s_p2 x_t_p2 x_x_p2
  go_upto_region 12 with fail
  have ce := (x_x20).c 15 _ c15
  have ze := (x_x20).lt
  have lq_s := (x_s20).lt
  have lq_t := (x_t20).lt
  have lq_x := (x_x20).lt
  go_upto_region 13 with (first | (refine wpList_store_cell (k := 15) (ws := UY) (v := .int .u8 (bits .xor .u8 x0 1)) rfl _ _ _ rfl x_x20 rfl rfl rfl rfl size_u8n (by rw [n3.out]; decide) E3.out ?_; intro S20_0 hS20_0))
  have x_s21 : Box S20_0 (w.heap.size) (DS) := (hS20_0.past _ _ (by omega) x_s20)
  have x_t21 : Box S20_0 (w8.heap.size) (PA) := (hS20_0.past _ _ (by omega) x_t20)
  have x_x21 := hS20_0.box
  have hB21 := (hS20_0.below _ _ (by omega) hB20); have hs21 := hB21.size
  clear x_s20 x_t20 x_x20 hB20 hs20 lq_s lq_t lq_x
  clear hS20_0
  clear ce ze
  refine wp_region_held_drew (S := fun W => Box W (w.heap.size) (DS) ∧ Box W (w8.heap.size) (PA) ∧ Box W (w14.heap.size) (UY)) (by kernel_rfl) (And.intro (x_s21).drew (And.intro (x_t21).drew (x_x21).drew)) (fun _ => ?_)
  refine F_drew (F := fun W => wpAnyH _ _ _ _ _ _ _ _ W) ?_
  intro Wq0 hbq0
  clear hs21
  have x_s_q0 : Box Wq0 (w.heap.size) (DS) := Box.below x_s21 hbq0
  have x_t_q0 : Box Wq0 (w8.heap.size) (PA) := Box.below x_t21 hbq0
  have x_x_q0 : Box Wq0 (w14.heap.size) (UY) := Box.below x_x21 hbq0
  have Bq0 := below_thru hB21 hbq0
  clear x_s21 x_t21 x_x21 hB21 hbq0
  refine takeH 0 95 (v := .agg (DS).toArray) rfl (by rfl) (by kernel_rfl) (by kernel_rfl) (by kernel_rfl) (fun _ _ _ h => h) (yieldsIf_load_mid (by rfl) _ _ rfl _ _ rfl (DS) _ (fun wq hq => Box.range (hq.1)) Tryd.underlying23 rfl SS.out) ((And.intro x_s_q0 (And.intro x_t_q0 x_x_q0))) ?_
  try simp only [Act.put, List.setIfInBounds_toArray, List.set_cons_zero, List.set_cons_succ]
  refine takeH 1 96 (v := .agg (UY).toArray) rfl (by rfl) (by kernel_rfl) (by kernel_rfl) (by kernel_rfl) (fun _ _ _ h => h) (yieldsIf_load_mid (by rfl) _ _ rfl _ _ rfl (UY) _ (fun wq hq => Box.range (hq.2.2)) Tryd.underlying37 rfl SW.out) ((And.intro x_s_q0 (And.intro x_t_q0 x_x_q0))) ?_
  try simp only [Act.put, List.setIfInBounds_toArray, List.set_cons_zero, List.set_cons_succ]
  refine wpAnyH_ready (rs := [2]) (by kernel_rfl) (by simp) (AllReadyH.cons rfl (fun K hK => ?_) AllReadyH.nil)
  go_simp
  refine (CY _).mono ?_
  rintro e Wq1 ⟨rfl, hbq1⟩
  have x_s_q1 : Box Wq1 (w.heap.size) (DS) := Box.below x_s_q0 hbq1
  have x_t_q1 : Box Wq1 (w8.heap.size) (PA) := Box.below x_t_q0 hbq1
  have x_x_q1 : Box Wq1 (w14.heap.size) (UY) := Box.below x_x_q0 hbq1
  have Bq1 := below_thru Bq0 hbq1
  clear x_s_q0 x_t_q0 x_x_q0 Bq0 hbq1
  refine hK.out _ _ (And.intro x_s_q1 (And.intro x_t_q1 x_x_q1)) (fun _ => ?_); clear hK K
  refine wpAnyH_ready (rs := [3]) (by kernel_rfl) (by simp) (AllReadyH.cons rfl (fun K hK => ?_) AllReadyH.nil)
  go_simp
  refine (RY _ (Lib.hid (hL.out.below Bq1))).mono ?_
  rintro e Wq2 ⟨rfl, hbq2⟩
  have x_s_q2 : Box Wq2 (w.heap.size) (DS) := Box.below x_s_q1 hbq2
  have x_t_q2 : Box Wq2 (w8.heap.size) (PA) := Box.below x_t_q1 hbq2
  have x_x_q2 : Box Wq2 (w14.heap.size) (UY) := Box.below x_x_q1 hbq2
  have Bq2 := below_thru Bq1 hbq2
  clear x_s_q1 x_t_q1 x_x_q1 Bq1 hbq2
  refine hK.out _ _ (And.intro x_s_q2 (And.intro x_t_q2 x_x_q2)) (fun _ => ?_); clear hK K
  refine takeH 4 94 (v := ?vq4_3) rfl (by rfl) (by kernel_rfl) (by kernel_rfl) (by kernel_rfl) (fun _ _ _ h => h) (Or.inl ⟨by rfl, ?_⟩) ((And.intro x_s_q2 (And.intro x_t_q2 x_x_q2))) ?_
  rotate_left
  · intro wq hSq
    go_simp
    exact rfl
  try simp only [Act.put, List.setIfInBounds_toArray, List.set_cons_zero, List.set_cons_succ]
  refine takeH 5 99 (v := ?vq5_4) rfl (by rfl) (by kernel_rfl) (by kernel_rfl) (by kernel_rfl) (fun _ _ _ h => h) (Or.inl ⟨by rfl, ?_⟩) ((And.intro x_s_q2 (And.intro x_t_q2 x_x_q2))) ?_
  rotate_left
  · intro wq hSq
    go_simp
    exact rfl
  try simp only [Act.put, List.setIfInBounds_toArray, List.set_cons_zero, List.set_cons_succ]
  refine takeH 6 100 (v := ?vq6_5) rfl (by rfl) (by kernel_rfl) (by kernel_rfl) (by kernel_rfl) (fun _ _ _ h => h) (Or.inl ⟨by rfl, ?_⟩) ((And.intro x_s_q2 (And.intro x_t_q2 x_x_q2))) ?_
  rotate_left
  · intro wq hSq
    go_simp
    exact rfl
  try simp only [Act.put, List.setIfInBounds_toArray, List.set_cons_zero, List.set_cons_succ]
  refine takeH 7 22 (v := ?vq7_6) rfl (by rfl) (by kernel_rfl) (by kernel_rfl) (by kernel_rfl) (fun _ _ _ h => h) (Or.inl ⟨by rfl, ?_⟩) ((And.intro x_s_q2 (And.intro x_t_q2 x_x_q2))) ?_
  rotate_left
  · intro wq hSq
    go_simp
    exact rfl
  try simp only [Act.put, List.setIfInBounds_toArray, List.set_cons_zero, List.set_cons_succ]
  refine takeH 8 23 (v := ?vq8_7) rfl (by rfl) (by kernel_rfl) (by kernel_rfl) (by kernel_rfl) (fun _ _ _ h => h) (Or.inl ⟨by rfl, ?_⟩) ((And.intro x_s_q2 (And.intro x_t_q2 x_x_q2))) ?_
  rotate_left
  · intro wq hSq
    go_simp
    exact rfl
  try simp only [Act.put, List.setIfInBounds_toArray, List.set_cons_zero, List.set_cons_succ]
  refine wpAnyH_done (by kernel_rfl) ?_ _
  have hB22 := Bq2; have hs22 := hB22.size
  have x_s22 := x_s_q2
  have x_t22 := x_t_q2
  have x_x22 := x_x_q2
  clear Bq2 x_s_q2 x_t_q2 x_x_q2
  go_wp2_with (first
    | (refine wpList_load_box9 rfl _ _ rfl x_s22 rfl Tryd.underlying23 rfl SS.out ?_)
    | (refine wpList_build9 rfl 46 _ rfl (us := #[]) (by rfl) (BM _) ?_))
  refine (RZ _ (Lib.hid (hL.out.below hB22))).mono ?_
  rintro e w23 ⟨rfl, hb⟩
  have hB23 : Below w.heap.size w w23 := below_thru hB22 hb
  have hs23 := hB23.size
  have x_s23 : Box w23 (w.heap.size) (DS) := Box.below x_s22 hb
  have x_t23 : Box w23 (w8.heap.size) (PA) := Box.below x_t22 hb
  have x_x23 : Box w23 (w14.heap.size) (UY) := Box.below x_x22 hb
  clear hB22 hs22 x_s22 x_t22 x_x22
  clear hb
  go_upto_region 15 with fail
  have lq_s := (x_s23).lt
  have lq_t := (x_t23).lt
  have lq_x := (x_x23).lt
  go_upto_region 16 with (first | (refine wpList_store_cell (k := 2) (ws := PB) (v := .int .u32 1000001) rfl _ _ _ rfl x_t23 rfl rfl rfl rfl size_u32n (by rw [n1.out]; decide) E1.out ?_; intro S23_0 hS23_0))
  have x_s24 : Box S23_0 (w.heap.size) (DS) := (hS23_0.past _ _ (by omega) x_s23)
  have x_t24 := hS23_0.box
  have x_x24 : Box S23_0 (w14.heap.size) (UY) := (hS23_0.past _ _ (by omega) x_x23)
  have hB24 := (hS23_0.below _ _ (by omega) hB23); have hs24 := hB24.size
  clear x_s23 x_t23 x_x23 hB23 hs23 lq_s lq_t lq_x
  clear hS23_0
  refine wp_region_held_drew (S := fun W => Box W (w.heap.size) (DS) ∧ Box W (w8.heap.size) (PB) ∧ Box W (w14.heap.size) (UY)) (by kernel_rfl) (And.intro (x_s24).drew (And.intro (x_t24).drew (x_x24).drew)) (fun _ => ?_)
  refine F_drew (F := fun W => wpAnyH _ _ _ _ _ _ _ _ W) ?_
  intro Wr0 hbr0
  clear hs24
  have x_s_r0 : Box Wr0 (w.heap.size) (DS) := Box.below x_s24 hbr0
  have x_t_r0 : Box Wr0 (w8.heap.size) (PB) := Box.below x_t24 hbr0
  have x_x_r0 : Box Wr0 (w14.heap.size) (UY) := Box.below x_x24 hbr0
  have Br0 := below_thru hB24 hbr0
  clear x_s24 x_t24 x_x24 hB24 hbr0
  refine takeH 0 109 (v := .agg (DS).toArray) rfl (by rfl) (by kernel_rfl) (by kernel_rfl) (by kernel_rfl) (fun _ _ _ h => h) (yieldsIf_load_mid (by rfl) _ _ rfl _ _ rfl (DS) _ (fun wq hq => Box.range (hq.1)) Tryd.underlying23 rfl SS.out) ((And.intro x_s_r0 (And.intro x_t_r0 x_x_r0))) ?_
  try simp only [Act.put, List.setIfInBounds_toArray, List.set_cons_zero, List.set_cons_succ]
  refine takeH 1 110 (v := .agg (PB).toArray) rfl (by rfl) (by kernel_rfl) (by kernel_rfl) (by kernel_rfl) (fun _ _ _ h => h) (yieldsIf_load_mid (by rfl) _ _ rfl _ _ rfl (PB) _ (fun wq hq => Box.range (hq.2.1)) Tryd.underlying30 rfl SB.out) ((And.intro x_s_r0 (And.intro x_t_r0 x_x_r0))) ?_
  try simp only [Act.put, List.setIfInBounds_toArray, List.set_cons_zero, List.set_cons_succ]
  refine wpAnyH_ready (rs := [2]) (by kernel_rfl) (by simp) (AllReadyH.cons rfl (fun K hK => ?_) AllReadyH.nil)
  go_simp
  refine (QL _).mono ?_
  rintro e Wr1 ⟨rfl, hbr1⟩
  have x_s_r1 : Box Wr1 (w.heap.size) (DS) := Box.below x_s_r0 hbr1
  have x_t_r1 : Box Wr1 (w8.heap.size) (PB) := Box.below x_t_r0 hbr1
  have x_x_r1 : Box Wr1 (w14.heap.size) (UY) := Box.below x_x_r0 hbr1
  have Br1 := below_thru Br0 hbr1
  clear x_s_r0 x_t_r0 x_x_r0 Br0 hbr1
  refine hK.out _ _ (And.intro x_s_r1 (And.intro x_t_r1 x_x_r1)) (fun _ => ?_); clear hK K
  refine wpAnyH_ready (rs := [3]) (by kernel_rfl) (by simp) (AllReadyH.cons rfl (fun K hK => ?_) AllReadyH.nil)
  go_simp
  refine (RL _ (Lib.hid (hL.out.below Br1))).mono ?_
  rintro e Wr2 ⟨rfl, hbr2⟩
  have x_s_r2 : Box Wr2 (w.heap.size) (DS) := Box.below x_s_r1 hbr2
  have x_t_r2 : Box Wr2 (w8.heap.size) (PB) := Box.below x_t_r1 hbr2
  have x_x_r2 : Box Wr2 (w14.heap.size) (UY) := Box.below x_x_r1 hbr2
  have Br2 := below_thru Br1 hbr2
  clear x_s_r1 x_t_r1 x_x_r1 Br1 hbr2
  refine hK.out _ _ (And.intro x_s_r2 (And.intro x_t_r2 x_x_r2)) (fun _ => ?_); clear hK K
  refine takeH 4 108 (v := ?vr4_3) rfl (by rfl) (by kernel_rfl) (by kernel_rfl) (by kernel_rfl) (fun _ _ _ h => h) (Or.inl ⟨by rfl, ?_⟩) ((And.intro x_s_r2 (And.intro x_t_r2 x_x_r2))) ?_
  rotate_left
  · intro wq hSq
    go_simp
    exact rfl
  try simp only [Act.put, List.setIfInBounds_toArray, List.set_cons_zero, List.set_cons_succ]
  refine takeH 5 113 (v := ?vr5_4) rfl (by rfl) (by kernel_rfl) (by kernel_rfl) (by kernel_rfl) (fun _ _ _ h => h) (Or.inl ⟨by rfl, ?_⟩) ((And.intro x_s_r2 (And.intro x_t_r2 x_x_r2))) ?_
  rotate_left
  · intro wq hSq
    go_simp
    exact rfl
  try simp only [Act.put, List.setIfInBounds_toArray, List.set_cons_zero, List.set_cons_succ]
  refine takeH 6 114 (v := ?vr6_5) rfl (by rfl) (by kernel_rfl) (by kernel_rfl) (by kernel_rfl) (fun _ _ _ h => h) (Or.inl ⟨by rfl, ?_⟩) ((And.intro x_s_r2 (And.intro x_t_r2 x_x_r2))) ?_
  rotate_left
  · intro wq hSq
    go_simp
    exact rfl
  try simp only [Act.put, List.setIfInBounds_toArray, List.set_cons_zero, List.set_cons_succ]
  refine takeH 7 26 (v := ?vr7_6) rfl (by rfl) (by kernel_rfl) (by kernel_rfl) (by kernel_rfl) (fun _ _ _ h => h) (Or.inl ⟨by rfl, ?_⟩) ((And.intro x_s_r2 (And.intro x_t_r2 x_x_r2))) ?_
  rotate_left
  · intro wq hSq
    go_simp
    exact rfl
  try simp only [Act.put, List.setIfInBounds_toArray, List.set_cons_zero, List.set_cons_succ]
  refine takeH 8 27 (v := ?vr8_7) rfl (by rfl) (by kernel_rfl) (by kernel_rfl) (by kernel_rfl) (fun _ _ _ h => h) (Or.inl ⟨by rfl, ?_⟩) ((And.intro x_s_r2 (And.intro x_t_r2 x_x_r2))) ?_
  rotate_left
  · intro wq hSq
    go_simp
    exact rfl
  try simp only [Act.put, List.setIfInBounds_toArray, List.set_cons_zero, List.set_cons_succ]
  refine wpAnyH_done (by kernel_rfl) ?_ _
  have hB25 := Br2; have hs25 := hB25.size
  have x_s25 := x_s_r2
  have x_t25 := x_t_r2
  have x_x25 := x_x_r2
  clear Br2 x_s_r2 x_t_r2 x_x_r2
  go_upto_region 17 with fail
  have lq_s := (x_s25).lt
  have lq_t := (x_t25).lt
  have lq_x := (x_x25).lt
  go_upto_region 18 with (first | (refine wpList_store_cell (k := 0) (ws := PC) (v := .int .u32 16) rfl _ _ _ rfl x_t25 rfl rfl rfl rfl size_u32n (by rw [n2.out]; decide) E2.out ?_; intro S25_0 hS25_0))
  have x_s26 : Box S25_0 (w.heap.size) (DS) := (hS25_0.past _ _ (by omega) x_s25)
  have x_t26 := hS25_0.box
  have x_x26 : Box S25_0 (w14.heap.size) (UY) := (hS25_0.past _ _ (by omega) x_x25)
  have hB26 := (hS25_0.below _ _ (by omega) hB25); have hs26 := hB26.size
  clear x_s25 x_t25 x_x25 hB25 hs25 lq_s lq_t lq_x
  clear hS25_0
  refine wp_region_held_drew (S := fun W => Box W (w.heap.size) (DS) ∧ Box W (w8.heap.size) (PC) ∧ Box W (w14.heap.size) (UY)) (by kernel_rfl) (And.intro (x_s26).drew (And.intro (x_t26).drew (x_x26).drew)) (fun _ => ?_)
  refine F_drew (F := fun W => wpAnyH _ _ _ _ _ _ _ _ W) ?_
  intro Wu0 hbu0
  clear hs26
  have x_s_u0 : Box Wu0 (w.heap.size) (DS) := Box.below x_s26 hbu0
  have x_t_u0 : Box Wu0 (w8.heap.size) (PC) := Box.below x_t26 hbu0
  have x_x_u0 : Box Wu0 (w14.heap.size) (UY) := Box.below x_x26 hbu0
  have Bu0 := below_thru hB26 hbu0
  clear x_s26 x_t26 x_x26 hB26 hbu0
  refine takeH 0 117 (v := .agg (DS).toArray) rfl (by rfl) (by kernel_rfl) (by kernel_rfl) (by kernel_rfl) (fun _ _ _ h => h) (yieldsIf_load_mid (by rfl) _ _ rfl _ _ rfl (DS) _ (fun wq hq => Box.range (hq.1)) Tryd.underlying23 rfl SS.out) ((And.intro x_s_u0 (And.intro x_t_u0 x_x_u0))) ?_
  try simp only [Act.put, List.setIfInBounds_toArray, List.set_cons_zero, List.set_cons_succ]
  refine takeH 1 118 (v := .agg (PC).toArray) rfl (by rfl) (by kernel_rfl) (by kernel_rfl) (by kernel_rfl) (fun _ _ _ h => h) (yieldsIf_load_mid (by rfl) _ _ rfl _ _ rfl (PC) _ (fun wq hq => Box.range (hq.2.1)) Tryd.underlying30 rfl SC.out) ((And.intro x_s_u0 (And.intro x_t_u0 x_x_u0))) ?_
  try simp only [Act.put, List.setIfInBounds_toArray, List.set_cons_zero, List.set_cons_succ]
  refine wpAnyH_ready (rs := [2]) (by kernel_rfl) (by simp) (AllReadyH.cons rfl (fun K hK => ?_) AllReadyH.nil)
  go_simp
  refine (QN _).mono ?_
  rintro e Wu1 ⟨rfl, hbu1⟩
  have x_s_u1 : Box Wu1 (w.heap.size) (DS) := Box.below x_s_u0 hbu1
  have x_t_u1 : Box Wu1 (w8.heap.size) (PC) := Box.below x_t_u0 hbu1
  have x_x_u1 : Box Wu1 (w14.heap.size) (UY) := Box.below x_x_u0 hbu1
  have Bu1 := below_thru Bu0 hbu1
  clear x_s_u0 x_t_u0 x_x_u0 Bu0 hbu1
  refine hK.out _ _ (And.intro x_s_u1 (And.intro x_t_u1 x_x_u1)) (fun _ => ?_); clear hK K
  refine wpAnyH_ready (rs := [3]) (by kernel_rfl) (by simp) (AllReadyH.cons rfl (fun K hK => ?_) AllReadyH.nil)
  go_simp
  refine (RN _ (Lib.hid (hL.out.below Bu1))).mono ?_
  rintro e Wu2 ⟨rfl, hbu2⟩
  have x_s_u2 : Box Wu2 (w.heap.size) (DS) := Box.below x_s_u1 hbu2
  have x_t_u2 : Box Wu2 (w8.heap.size) (PC) := Box.below x_t_u1 hbu2
  have x_x_u2 : Box Wu2 (w14.heap.size) (UY) := Box.below x_x_u1 hbu2
  have Bu2 := below_thru Bu1 hbu2
  clear x_s_u1 x_t_u1 x_x_u1 Bu1 hbu2
  refine hK.out _ _ (And.intro x_s_u2 (And.intro x_t_u2 x_x_u2)) (fun _ => ?_); clear hK K
  refine takeH 4 116 (v := ?vu4_3) rfl (by rfl) (by kernel_rfl) (by kernel_rfl) (by kernel_rfl) (fun _ _ _ h => h) (Or.inl ⟨by rfl, ?_⟩) ((And.intro x_s_u2 (And.intro x_t_u2 x_x_u2))) ?_
  rotate_left
  · intro wq hSq
    go_simp
    exact rfl
  try simp only [Act.put, List.setIfInBounds_toArray, List.set_cons_zero, List.set_cons_succ]
  refine takeH 5 121 (v := ?vu5_4) rfl (by rfl) (by kernel_rfl) (by kernel_rfl) (by kernel_rfl) (fun _ _ _ h => h) (Or.inl ⟨by rfl, ?_⟩) ((And.intro x_s_u2 (And.intro x_t_u2 x_x_u2))) ?_
  rotate_left
  · intro wq hSq
    go_simp
    exact rfl
  try simp only [Act.put, List.setIfInBounds_toArray, List.set_cons_zero, List.set_cons_succ]
  refine takeH 6 122 (v := ?vu6_5) rfl (by rfl) (by kernel_rfl) (by kernel_rfl) (by kernel_rfl) (fun _ _ _ h => h) (Or.inl ⟨by rfl, ?_⟩) ((And.intro x_s_u2 (And.intro x_t_u2 x_x_u2))) ?_
  rotate_left
  · intro wq hSq
    go_simp
    exact rfl
  try simp only [Act.put, List.setIfInBounds_toArray, List.set_cons_zero, List.set_cons_succ]
  refine takeH 7 28 (v := ?vu7_6) rfl (by rfl) (by kernel_rfl) (by kernel_rfl) (by kernel_rfl) (fun _ _ _ h => h) (Or.inl ⟨by rfl, ?_⟩) ((And.intro x_s_u2 (And.intro x_t_u2 x_x_u2))) ?_
  rotate_left
  · intro wq hSq
    go_simp
    exact rfl
  try simp only [Act.put, List.setIfInBounds_toArray, List.set_cons_zero, List.set_cons_succ]
  refine takeH 8 29 (v := ?vu8_7) rfl (by rfl) (by kernel_rfl) (by kernel_rfl) (by kernel_rfl) (fun _ _ _ h => h) (Or.inl ⟨by rfl, ?_⟩) ((And.intro x_s_u2 (And.intro x_t_u2 x_x_u2))) ?_
  rotate_left
  · intro wq hSq
    go_simp
    exact rfl
  try simp only [Act.put, List.setIfInBounds_toArray, List.set_cons_zero, List.set_cons_succ]
  refine wpAnyH_done (by kernel_rfl) ?_ _
  have hB27 := Bu2; have hs27 := hB27.size
  have x_s27 := x_s_u2
  have x_t27 := x_t_u2
  have x_x27 := x_x_u2
  clear Bu2 x_s_u2 x_t_u2 x_x_u2
  have cg := (x_t27).c 1 _ p1
  have zg := (x_t27).lt
  have ch := (x_x27).c 2 _ x2
  have zh := (x_x27).lt
  go_wp2_with fail
  refine (AL _ (Lib.hid (hL.out.below hB27))).mono ?_
  rintro e w28 ⟨rfl, hb⟩
  have hB28 : Below w.heap.size w w28 := below_thru hB27 hb
  have hs28 := hB28.size
  have x_s28 : Box w28 (w.heap.size) (DS) := Box.below x_s27 hb
  have x_t28 : Box w28 (w8.heap.size) (PC) := Box.below x_t27 hb
  have x_x28 : Box w28 (w14.heap.size) (UY) := Box.below x_x27 hb
  clear hB27 hs27 x_s27 x_t27 x_x27
  clear hb
  go_wp2_with fail
  go_returns
  exact ⟨rfl, hB28⟩


end Go.Proofs.YtofjpeplgagihaaDoor
