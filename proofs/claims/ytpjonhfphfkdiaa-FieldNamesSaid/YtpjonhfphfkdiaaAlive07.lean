/-
  Fields with a number, the row of the examples, refused bytes: what the laws of layer 7 share.
-/
import Derived.Test.YtpjonhfphfkdiaaRFldG
import Derived.Test.YtpjonhfphfkdiaaBuildN
import Derived.Test.YtpjonhfphfkdiaaWrites07
namespace Go.Proofs.Ytpjonhfphfkdiaa
open Go.RowKit

set_option maxRecDepth 100000 in
set_option maxHeartbeats 1600000 in
theorem number_is (k n : Int) (w : World) : Calls Try.prog 10 #[.int .u8 k, .int .u64 n] w fun e w' => e = .returned (.agg (fcell k n zeroD).toArray) ∧ Below w.heap.size w w' := by
  go_enter Try.func10, Try.ntmps10
  go_wp2_with (refine wpList_store_box (cs := fcell k n zeroD) rfl _ _ _ rfl (Box.newc (l := Fd.zero.v) rfl rfl) rfl rfl (sizeC _ _ _ rfl) rfl (oneC _ _ _) ?_; intro w1 hW1)
  refine bodyPost_ret (results_box (b := w.heap.size) (cs := fcell k n zeroD) Try.results10 hW1.box rfl Try.underlying30 rfl (sizeC _ _ _ rfl)) rfl ⟨rfl, hW1.below _ _ (Nat.le_refl _) (by go_grown)⟩

/-- The row of the examples. -/
def gv : List Fd := [.num 4 258 (by decide) (by decide), .num 1 1 (by decide) (by decide), .num 3 3 (by decide) (by decide)]
def GivesR (fs : List Fd) (w : World) (e : Ending) (w' : World) : Prop := ∃ v, e = .returned v ∧ IsR LF w' v fs ∧ Below w.heap.size w w'
theorem zipN (Vs : List (List Value)) (us : Array (Nat × Value)) (h : us.toList = Vs.zipIdx.map fun x => (x.2, Value.agg x.1.toArray)) : us.toList = Vs.zipIdx.map fun x => (x.2, Value.agg x.1.toArray) := h

set_option maxRecDepth 100000 in
set_option maxHeartbeats 1600000 in
theorem given_is (w : World) : Calls Try.prog 32 #[] w (GivesR gv w) := by
  obtain ⟨ti, hin, hz0, hz1, hz2⟩ := info_parts info_fld
  have A := number_is 4 258
  have B := number_is 1 1
  have C := number_is 3 3
  have HF : Hid (fcell 4 258 zeroD ++ (fcell 1 1 zeroD ++ fcell 3 3 zeroD) = flatR LF gv) := Lib.hid rfl
  have a1 : (fcell 4 258 zeroD).length = 34 := rfl
  have a2 : (fcell 1 1 zeroD).length = 34 := rfl
  have a3 : (fcell 3 3 zeroD).length = 34 := rfl
  obtain ⟨V1, h1⟩ : ∃ V, fcell 4 258 zeroD = V := ⟨_, rfl⟩
  obtain ⟨V2, h2⟩ : ∃ V, fcell 1 1 zeroD = V := ⟨_, rfl⟩
  obtain ⟨V3, h3⟩ : ∃ V, fcell 3 3 zeroD = V := ⟨_, rfl⟩
  rw [h1] at A a1 HF
  rw [h2] at B a2 HF
  rw [h3] at C a3 HF
  have HBS := Lib.hid (fun W => run_bsliceN (P := Try.prog) (n := 3) W 32 30 ti _ 34 Try.underlying32 hin hz0 hz1 rfl [V1, V2, V3] (by simp [a1, a2, a3]) (by decide) (by simp) #[(0, .agg V1.toArray), (1, .agg V2.toArray), (2, .agg V3.toArray)] rfl rfl (by decide))
  clear h1 h2 h3 a1 a2 a3
  go_enter Try.func32, Try.ntmps32
  go_wp2_with fail
  refine (A _).mono ?_
  rintro e w1 ⟨rfl, hb1⟩
  go_wp2_with fail
  refine (B _).mono ?_
  rintro e w2 ⟨rfl, hb2⟩
  go_wp2_with fail
  refine (C _).mono ?_
  rintro e w3 ⟨rfl, hb3⟩
  have hB := below_thru (below_thru hb1 hb2) hb3
  have hs := hB.size
  go_wp2_with (refine wpList_bsliceN rfl 32 3 _ rfl (us := #[(0, .agg V1.toArray), (1, .agg V2.toArray), (2, .agg V3.toArray)]) (by rfl) (HBS.out _) ?_)
  go_returns
  exact ⟨_, rfl, IsR.built gv rfl (by rw [HF.out]) rfl rfl (by decide), hB.alloc hs _⟩

/-- Bytes that are no field of a kind. -/
theorem refE_bad {k x : Int} (hk : 0 ≤ k ∧ k ≤ 255) (hx : 0 ≤ x ∧ x ≤ 255) (hw : wid k = 1) (h : (fld k [x]).ok = false) : reaE [k] [x] = 12 := by
  have _ := hk
  have _ := hx
  have hki : kinE [k] = 0 := kinE_ok (by simp) (fun y hy => by simp at hy; rw [hy, hw]; decide)
  have hr : rd [k] [x] = none := rd_none (ks := []) (ks' := []) (Rd.nil [x]) (Or.inr (by rw [hw]; exact h))
  unfold reaE
  rw [(fir_none hki hr).1]
  rfl
theorem fld_bad1 {k x : Int} (hk : 0 ≤ k ∧ k ≤ 255) (hx : 0 ≤ x ∧ x ≤ 255) (hw : wid k = 1) (hg : gre k < x) : (fld k [x]).ok = false := by
  have h6 : k ≠ 6 := fun q => by rw [wid_six q] at hw; omega
  obtain ⟨h1, h2, h3⟩ := fld_ok (bs := [x]) hk (by rw [hw]; rfl) (fun y hy => by simp at hy; rw [hy]; exact hx)
  unfold Fd.ok
  rw [h1, h2]
  have : fldN k [x] = x := by
    unfold fldN
    rw [if_neg h6]
    show 256 * 0 + x = x
    omega
  rw [this, show decide (x ≤ gre k) = false from decide_eq_false (by omega)]
  simp

set_option maxRecDepth 100000 in
set_option maxHeartbeats 1600000 in
theorem refused_is (k x : Int) (w : World) (b n : Nat) (c : Nat) (hk : 0 ≤ k ∧ k ≤ 255) (hx : 0 ≤ x ∧ x ≤ 255) (hl : IsL w .u8 (.slice (some ⟨b, 0, none⟩) n c) [x]) (h : reaE [k] [x] = 12) : Calls Try.prog 33 #[.int .u8 k, .slice (some ⟨b, 0, none⟩) n c] w fun e w' => e = .returned (.bool true) ∧ Below w.heap.size w w' := by
  have R := fun (W : World) (a : Value) (h1 : IsL W .u8 a [k]) (h2 : IsL W .u8 (.slice (some ⟨b, 0, none⟩) n c) [x]) => read_is W h1 h2 (fun y hy => by simp at hy; rw [hy]; exact hk) (fun y hy => by simp at hy; rw [hy]; exact hx)
  obtain ⟨F, hF⟩ : ∃ F, reaF [k] [x] = F := ⟨_, rfl⟩
  rw [h, hF] at R
  have HL := Lib.hid hl
  clear h hF hl
  go_enter Try.func33, Try.ntmps33
  go_wp2_with fail
  refine (R _ _ (IsL.built [k] rfl rfl rfl rfl (by simp)) (HL.out.alloc _)).mono ?_
  rintro e w1 ⟨v1, rfl, _, hb⟩
  have hB : Below w.heap.size w w1 := below_thru (by go_grown) hb
  go_wp2_with fail
  go_returns
  exact ⟨rfl, hB⟩

def gb : List Int := [0, 0, 1, 2, 1, 0, 3]
theorem gv_e : rowE gv = 0 := by decide
theorem gv_b : rowB gv = gb := by decide
theorem gv_v : rowV gv = gb := by rw [rowV_ok gv_e, gv_b]
theorem gb_byts : Byts gb := by rw [← gv_b]; exact rowB_byts gv
theorem rea_row {fs : List Fd} (h : rowE fs = 0) : reaE (fs.map Fd.k) (rowB fs) = 0 ∧ reaF (fs.map Fd.k) (rowB fs) = fs := by
  obtain ⟨hl, ho⟩ := rowE_zero h
  have hk : kinE (fs.map Fd.k) = 0 := kinE_ok (by rw [List.length_map]; exact hl) (fun k hk => by
    obtain ⟨f, hf, rfl⟩ := List.mem_map.1 hk
    have := ho f hf
    unfold Fd.ok at this
    simp only [Bool.and_eq_true, decide_eq_true_eq] at this
    exact this.1.1)
  obtain ⟨e1, e2, e3⟩ := fir_some hk (show Rd (fs.map Fd.k) (rowB fs) fs [] from ⟨rfl, ho, List.append_nil _⟩)
  have e4 : reaE (fs.map Fd.k) (rowB fs) = 0 := by unfold reaE; rw [e1, e3]; rfl
  exact ⟨e4, by unfold reaF; rw [e4, if_pos rfl, e2]⟩

set_option maxRecDepth 100000 in
set_option maxHeartbeats 1600000 in
theorem alive_is (w : World) : Calls Try.prog 17 #[] w fun e w' => e = .returned (.bool true) ∧ Below w.heap.size w w' := by
  have WR := fun (W : World) (v : Value) (h : IsR LF W v gv) => write_is W h
  rw [gv_v, gv_e] at WR
  have RD := fun (W : World) (v u : Value) (h1 : IsL W .u8 v [4, 1, 3]) (h2 : IsL W .u8 u gb) => read_is W h1 h2 (fun y hy => by simp at hy; omega) gb_byts
  have hr := rea_row gv_e
  rw [gv_b] at hr
  rw [show gv.map Fd.k = [4, 1, 3] from rfl] at hr
  rw [hr.1, hr.2] at RD
  have N := number_is 2 256
  have C := fun W => check_is (Fd.num 2 256 (by decide) (by decide)) W
  rw [show (Fd.num 2 256 (by decide) (by decide)).v = fcell 2 256 zeroD from rfl, show (Fd.num 2 256 (by decide) (by decide)).err = 8 from by decide] at C
  obtain ⟨V, hV⟩ : ∃ V, fcell 2 256 zeroD = V := ⟨_, rfl⟩
  rw [hV] at N C
  have r1 : reaE [1] [2] = 12 := refE_bad (by decide) (by decide) rfl (fld_bad1 (by decide) (by decide) rfl (by decide))
  have r2 : reaE [7] [1] = 12 := refE_bad (by decide) (by decide) rfl (fld_bad1 (by decide) (by decide) rfl (by decide))
  have HR1 := Lib.hid r1
  have HR2 := Lib.hid r2
  clear hV hr r1 r2
  go_enter Try.func17, Try.ntmps17
  go_wp2_with fail
  refine (given_is _).mono ?_
  rintro e w1 ⟨va, rfl, hla, hb1⟩
  go_wp2_with fail
  refine (WR _ _ hla).mono ?_
  rintro e w2 ⟨vc, rfl, hlc, hb2⟩
  have hB2 := below_thru hb1 hb2
  have HLC := Lib.hid hlc
  clear hlc hb1 hb2 hla
  have hs2 := hB2.size
  go_wp2_with fail
  refine (RD _ _ _ (IsL.built [4, 1, 3] rfl rfl rfl rfl (by simp)) (HLC.out.alloc _)).mono ?_
  rintro e w3 ⟨vd, rfl, hod, hb3⟩
  have hB3 : Below w.heap.size w w3 := below_thru (hB2.alloc hs2 _) hb3
  have hd3 : IsR LF w3 vd gv := IsR.own hod rfl rfl
  have hc3 : IsL w3 .u8 vc gb := (HLC.out.alloc _).below hb3
  have HD3 := Lib.hid hd3
  have HC3 := Lib.hid hc3
  clear hod hb3 HLC hB2 hd3 hc3 hs2
  have hs3 := hB3.size
  go_wp2_with fail
  refine (sameb_tt _ (HC3.out.alloc _) (IsL.built gb rfl rfl rfl rfl (by decide))).mono ?_
  rintro e w4 ⟨rfl, hb4⟩
  have hB4 : Below w.heap.size w w4 := below_thru (hB3.alloc hs3 _) hb4
  have HD4 := Lib.hid ((HD3.out.alloc _).below hb4)
  clear hb4 HD3 HC3 hB3 hs3
  go_wp2_with fail
  refine (given_is _).mono ?_
  rintro e w5 ⟨ve, rfl, hle, hb5⟩
  have hB5 := below_thru hB4 hb5
  have HD5 := Lib.hid (HD4.out.below hb5)
  clear HD4 hb5 hB4
  have E5 := rsame_is _ HD5.out hle
  rw [show sameF gv gv = true from decide_eq_true rfl] at E5
  go_wp2_with fail
  refine E5.mono ?_
  rintro e w6 ⟨rfl, hb6⟩
  have hB6 := below_thru hB5 hb6
  have hs6 := hB6.size
  clear E5 HD5 hle hb6 hB5
  go_wp2_with fail
  refine (refused_is 1 2 _ _ _ _ (by decide) (by decide) (IsL.built [2] rfl rfl rfl rfl (by simp)) HR1.out).mono ?_
  rintro e w7 ⟨rfl, hb7⟩
  have hB7 := below_thru (hB6.alloc hs6 _) hb7
  have hs7 := hB7.size
  clear hb7 hB6 hs6
  go_wp2_with fail
  refine (refused_is 7 1 _ _ _ _ (by decide) (by decide) (IsL.built [1] rfl rfl rfl rfl (by simp)) HR2.out).mono ?_
  rintro e w8 ⟨rfl, hb8⟩
  have hB8 := below_thru (hB7.alloc hs7 _) hb8
  clear hb8 hB7 hs7
  go_wp2_with fail
  refine (N _).mono ?_
  rintro e w9 ⟨rfl, hb9⟩
  go_wp2_with fail
  refine (C _).mono ?_
  rintro e w10 ⟨rfl, hb10⟩
  have hB10 := below_thru (below_thru hB8 hb9) hb10
  go_wp2_with fail
  go_returns
  exact ⟨rfl, hB10⟩

end Go.Proofs.Ytpjonhfphfkdiaa
