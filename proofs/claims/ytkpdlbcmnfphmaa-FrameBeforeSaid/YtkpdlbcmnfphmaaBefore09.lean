/-
  FrameBefore, walked.
-/
import Derived.Test.YtkpdlbcmnfphmaaRFmF
import Derived.Test.YtkpdlbcmnfphmaaFmO
import Derived.Test.YtkpdlbcmnfphmaaAlive09
namespace Go.Proofs.Ytkpdlbcmnfphmaa
open Go.RowKit

theorem F_own9 {F : World → Prop} {w : World} {base : Nat} (hb : base ≤ w.heap.size) (h : ∀ W, W.ownsRow base 5 1 (.slice (some ⟨w.heap.size, 0, none⟩) 0 0) 0 (([] : List Int).map (Value.int .u8)) → Below w.heap.size w W → F W) : F (w.alloc (.cells #[] 5)) :=
  h _ (ownR_base (owns_built (w := w) (base := w.heap.size) (e := 5) [] (Nat.le_refl _) (by simp)) hb) ((Below.refl _ _).alloc (Nat.le_refl _) _)
theorem step_append_ints9 {P : Program} {w : World} {ops : Array Oper} {o : Oper} {a : Act} {K : Act → World → Prop} {Q : Exit → Act → World → Prop} {E : Prop} (d : Nat) (hd : o.dst = some d) (hw : Region.wanted o (yielded ops a.tmps) = true) (s x : Operand) (t : TypeId)
    (ho : o.op = .call { callee := .builtin .append, args := #[s, x], argTypes := #[t, t] })
    (base : Nat) (e : TypeId) (i : TypeInfo) (z : Value) (bytes : Nat) (k : IntKind) (ht : P.underlying t = some (.slice e)) (hi : P.info? e = some i) (hz : i.zero = some z)
    (hsize : i.size = 1) (hby : i.bytes = bytes) (hzs : z.cells.size = 1)
    (v : Value) (n : Nat) (l : List Value) (hs : a.eval s = v) (hown : w.ownsRow base e 1 v n l)
    (v2 : Value) (xs : List Int) (hx : a.eval x = v2) (hin : IsL w k v2 xs)
    (h63 : n + xs.length ≤ maxLen) (hbytes : (n + xs.length) * bytes ≤ 140737488355328) (hbase : base ≤ w.heap.size)
    (h : ∀ v' w', w'.ownsRow base e 1 v' (n + xs.length) (l ++ xs.map (Value.int k)) → Below base w w' → K (a.put (some d) v') w') : if Region.wanted o (yielded ops a.tmps) = true then Oper.wp P o a w K Q else E := by
  rw [if_pos hw]
  obtain ⟨at0, cap, rfl, h2, h0⟩ := hin
  exact wp_append_ints s x t ho base e i z bytes k ht hi hz hsize hby hzs v n l hs hown at0 cap xs hx h2 h0 h63 hbytes hbase fun v' w' h1 h2 => by rw [hd]; exact h v' w' h1 ((Below.refl _ w).grown h2 hbase (own_block hown))
/-- The command with another Tag. -/
def Cmd.tag (c : Cmd) (g : List Int) (hg : g.length = 32) (hb : Byts g) : Cmd := { c with g := g, hg := hg, hgb := hb }
theorem Cmd.tag_iff {c d : Cmd} (hc : c.Ok) (hd : d.Ok) (g : List Int) (hg : g.length = 32) (hb : Byts g) : c.tag g hg hb = d.tag g hg hb ↔ c.msg = d.msg := by
  constructor
  · intro h
    exact (congrArg Cmd.msg h : _)
  · intro h
    have h1 := (Cmd.msg_inj (xs := []) (ys := []) (Cmd.ok_wd hc) (Cmd.ok_wd hd) (by rw [h])).1
    exact Cmd.ns_inj (c := c.tag g hg hb) (d := d.tag g hg hb) h1 rfl
theorem cc_drop (c : Cmd) : (ccell c).drop 15 = c.g.map (Value.int .u8) ++ [] := by
  rw [List.append_nil]
  rfl
theorem cc_tag (c : Cmd) (g : List Int) (hg : g.length = 32) (hb : Byts g) : ccell (c.tag g hg hb) = (ccell c).take 15 ++ g.map (Value.int .u8) ++ (ccell c).drop (15 + 32) := by
  have h1 : (ccell c).drop (15 + 32) = [] := List.drop_eq_nil_of_le (by rw [ccell_len]; decide)
  rw [h1, List.append_nil]
  rfl

set_option maxRecDepth 100000 in
set_option maxHeartbeats 12800000 in
theorem bf9_no (c d : Cmd) {g : List Int} (hg : g.length = 32) (hc : ¬ c.Ok) (w : World) : Calls Try.prog 7 #[.agg (ccell c).toArray, .agg (ccell d).toArray, .agg (g.map (Value.int .u8)).toArray] w fun e w' => e = .returned (.bool true) ∧ Below w.heap.size w w' := by
  have SC := Lib.hid (size_cmd c); have SD := Lib.hid (size_cmd d); have ST := Lib.hid (size_dg9 hg)
  have RC := fun W => risc_is c (q := false) (Lib.hid (by simp [hc])) W
  obtain ⟨T, hT⟩ : ∃ V, g.map (Value.int .u8) = V := ⟨_, rfl⟩; rw [hT] at ST ⊢
  obtain ⟨C, hC⟩ : ∃ V, ccell c = V := ⟨_, rfl⟩; rw [hC] at SC RC ⊢
  obtain ⟨D, hD⟩ : ∃ V, ccell d = V := ⟨_, rfl⟩; rw [hD] at SD ⊢
  clear hT hC hD hc
  clear hg
  go_enter Try.func7, Try.ntmps7
  go_upto_region 1 with fail
  refine F_gen (F := fun W => Code.wp _ _ _ _ W) (J := fun W => Box W (w.heap.size) (C) ∧ Box W (w.heap.size + 1) (D) ∧ Box W (w.heap.size + 2) (T) ∧ Below w.heap.size w W) (And.intro (Box.alloc (Box.alloc (Box.newc rfl rfl) _) _) (And.intro (Box.alloc (Box.newc rfl (by simp)) _) (And.intro (Box.newc rfl (by simp)) (by go_grown)))) ?_
  intro w0 ⟨e_c, e_d, e_t, hB0⟩
  have hs0 := hB0.size
  have x_c0 := e_c; clear e_c
  have x_d0 := e_d; clear e_d
  have x_t0 := e_t; clear e_t
  go_wp2_with (refine wpList_load_box9 rfl _ _ rfl x_c0 rfl Try.underlying31 rfl SC.out ?_)
  refine (RC _).mono ?_
  rintro e w1 ⟨rfl, hb⟩
  clear RC
  have hB1 : Below w.heap.size w w1 := below_thru hB0 hb
  have hs1 := hB1.size
  have x_c1 : Box w1 (w.heap.size) (C) := Box.below x_c0 hb
  have x_d1 : Box w1 (w.heap.size + 1) (D) := Box.below x_d0 hb
  have x_t1 : Box w1 (w.heap.size + 2) (T) := Box.below x_t0 hb
  clear hB0 hs0 x_c0 x_d0 x_t0
  clear hb
  go_wp2_with fail
  refine (alive9_is _).mono ?_
  rintro e w2 ⟨rfl, hb⟩
  have hB2 : Below w.heap.size w w2 := below_thru hB1 hb
  have hs2 := hB2.size
  have x_c2 : Box w2 (w.heap.size) (C) := Box.below x_c1 hb
  have x_d2 : Box w2 (w.heap.size + 1) (D) := Box.below x_d1 hb
  have x_t2 : Box w2 (w.heap.size + 2) (T) := Box.below x_t1 hb
  clear hB1 hs1 x_c1 x_d1 x_t1
  clear hb
  go_wp2_with fail
  go_returns
  exact ⟨rfl, hB2⟩

set_option maxRecDepth 100000 in
set_option maxHeartbeats 12800000 in
theorem bf9_no2 (c d : Cmd) {g : List Int} (hg : g.length = 32) (hc : c.Ok) (hd : ¬ d.Ok) (w : World) : Calls Try.prog 7 #[.agg (ccell c).toArray, .agg (ccell d).toArray, .agg (g.map (Value.int .u8)).toArray] w fun e w' => e = .returned (.bool true) ∧ Below w.heap.size w w' := by
  have SC := Lib.hid (size_cmd c); have SD := Lib.hid (size_cmd d); have ST := Lib.hid (size_dg9 hg)
  have RC := fun W => risc_is c (q := true) (Lib.hid (by simp [hc])) W
  have RD := fun W => risc_is d (q := false) (Lib.hid (by simp [hd])) W
  obtain ⟨T, hT⟩ : ∃ V, g.map (Value.int .u8) = V := ⟨_, rfl⟩; rw [hT] at ST ⊢
  obtain ⟨C, hC⟩ : ∃ V, ccell c = V := ⟨_, rfl⟩; rw [hC] at SC RC ⊢
  obtain ⟨D, hD⟩ : ∃ V, ccell d = V := ⟨_, rfl⟩; rw [hD] at SD RD ⊢
  clear hT hC hD hc hd
  clear hg
  go_enter Try.func7, Try.ntmps7
  go_upto_region 1 with fail
  refine F_gen (F := fun W => Code.wp _ _ _ _ W) (J := fun W => Box W (w.heap.size) (C) ∧ Box W (w.heap.size + 1) (D) ∧ Box W (w.heap.size + 2) (T) ∧ Below w.heap.size w W) (And.intro (Box.alloc (Box.alloc (Box.newc rfl rfl) _) _) (And.intro (Box.alloc (Box.newc rfl (by simp)) _) (And.intro (Box.newc rfl (by simp)) (by go_grown)))) ?_
  intro w0 ⟨e_c, e_d, e_t, hB0⟩
  have hs0 := hB0.size
  have x_c0 := e_c; clear e_c
  have x_d0 := e_d; clear e_d
  have x_t0 := e_t; clear e_t
  go_wp2_with (refine wpList_load_box9 rfl _ _ rfl x_c0 rfl Try.underlying31 rfl SC.out ?_)
  refine (RC _).mono ?_
  rintro e w1 ⟨rfl, hb⟩
  clear RC
  have hB1 : Below w.heap.size w w1 := below_thru hB0 hb
  have hs1 := hB1.size
  have x_c1 : Box w1 (w.heap.size) (C) := Box.below x_c0 hb
  have x_d1 : Box w1 (w.heap.size + 1) (D) := Box.below x_d0 hb
  have x_t1 : Box w1 (w.heap.size + 2) (T) := Box.below x_t0 hb
  clear hB0 hs0 x_c0 x_d0 x_t0
  clear hb
  go_wp2_with (refine wpList_load_box9 rfl _ _ rfl x_d1 rfl Try.underlying31 rfl SD.out ?_)
  refine (RD _).mono ?_
  rintro e w2 ⟨rfl, hb⟩
  clear RD
  have hB2 : Below w.heap.size w w2 := below_thru hB1 hb
  have hs2 := hB2.size
  have x_c2 : Box w2 (w.heap.size) (C) := Box.below x_c1 hb
  have x_d2 : Box w2 (w.heap.size + 1) (D) := Box.below x_d1 hb
  have x_t2 : Box w2 (w.heap.size + 2) (T) := Box.below x_t1 hb
  clear hB1 hs1 x_c1 x_d1 x_t1
  clear hb
  go_wp2_with fail
  refine (alive9_is _).mono ?_
  rintro e w3 ⟨rfl, hb⟩
  have hB3 : Below w.heap.size w w3 := below_thru hB2 hb
  have hs3 := hB3.size
  have x_c3 : Box w3 (w.heap.size) (C) := Box.below x_c2 hb
  have x_d3 : Box w3 (w.heap.size + 1) (D) := Box.below x_d2 hb
  have x_t3 : Box w3 (w.heap.size + 2) (T) := Box.below x_t2 hb
  clear hB2 hs2 x_c2 x_d2 x_t2
  clear hb
  go_wp2_with fail
  go_returns
  exact ⟨rfl, hB3⟩

set_option maxRecDepth 100000 in
set_option maxHeartbeats 12800000 in
theorem bf9_eq (c d : Cmd) {g : List Int} (hg : g.length = 32) (hgb : Byts g) (hc : c.Ok) (hd : d.Ok) (he : c.msg = d.msg) (w : World) : Calls Try.prog 7 #[.agg (ccell c).toArray, .agg (ccell d).toArray, .agg (g.map (Value.int .u8)).toArray] w fun e w' => e = .returned (.bool true) ∧ Below w.heap.size w w' := by
  have SC := Lib.hid (size_cmd c); have SD := Lib.hid (size_cmd d); have ST := Lib.hid (size_dg9 hg)
  have RC := fun W => risc_is c (q := true) (Lib.hid (by simp [hc])) W
  have RD := fun W => risc_is d (q := true) (Lib.hid (by simp [hd])) W
  obtain ⟨ti, hin, hz0, hz1, hz2⟩ := info_parts info_u8'
  have A1 := fun W => bef_own c hc W; have A2 := fun W => bef_own d hd W; have LC := fun W => lcmd_is c W
  have WF := fun W => wr_is (Frm.cmd c) (xs := c.msg ++ c.g) (q := 0) (Or.inl ⟨rfl, Frm.cmd_ok hc, (Frm.cmd_bs c).symm⟩) W
  have A3 := fun W => bef_is (c.tag g hg hgb) (xs := c.msg) (q := 0) (Or.inl ⟨rfl, hc, rfl⟩) W
  have HX := Lib.hid (Cmd.msg_len (Cmd.ok_wd hc)); have HY := Lib.hid (Cmd.msg_len (Cmd.ok_wd hd)); have HG := Lib.hid c.hg; have DG := Lib.hid (cc_drop c)
  have HZ : Hid (c.msg.map (Value.int .u8) ++ c.g.map (Value.int .u8) = (c.msg ++ c.g).map (Value.int .u8)) := Lib.hid (by rw [List.map_append]); have HW : Hid ((c.msg ++ c.g).length = 88) := Lib.hid (by rw [List.length_append, HX.out, HG.out])
  have SC2 := Lib.hid (size_cmd (c.tag g hg hgb)); have SD2 := Lib.hid (size_cmd (d.tag g hg hgb)); have NC := Lib.hid (ccell_len c); have ND := Lib.hid (ccell_len d)
  have NT : Hid ((g.map (Value.int .u8)).length = 32) := Lib.hid (by rw [List.length_map, hg]); have OT : Hid ((g.map (Value.int .u8)).toArray.all (·.oneCell') = true) := Lib.hid (oneCell_ints g)
  have WC := Lib.hid (cc_tag c g hg hgb); have WD := Lib.hid (cc_tag d g hg hgb)
  have WC2 : Hid (ccell (c.tag g hg hgb) = (ccell c).take 15 ++ g.map (Value.int .u8) ++ (ccell c).drop (15 + (g.map (Value.int .u8)).length)) := Lib.hid (by rw [NT.out]; exact WC.out); have WD2 : Hid (ccell (d.tag g hg hgb) = (ccell d).take 15 ++ g.map (Value.int .u8) ++ (ccell d).drop (15 + (g.map (Value.int .u8)).length)) := Lib.hid (by rw [NT.out]; exact WD.out); clear WC WD
  have ht := (Cmd.tag_iff hc hd g hg hgb).2 he; rw [← ht] at SD2 WD2; rw [← he] at A2 HY
  have EC := fun W => eqc_t (rfl : c.tag g hg hgb = c.tag g hg hgb) W
  obtain ⟨Z, hZ⟩ : ∃ V, c.msg ++ c.g = V := ⟨_, rfl⟩; rw [hZ] at WF HZ HW
  obtain ⟨X, hX⟩ : ∃ V, c.msg = V := ⟨_, rfl⟩; rw [hX] at A1 A3 HX HZ A2 HY
  obtain ⟨G, hG⟩ : ∃ V, c.g = V := ⟨_, rfl⟩; rw [hG] at HG HZ DG
  obtain ⟨MF, hMF⟩ : ∃ V, mcell (Frm.cmd c) = V := ⟨_, rfl⟩; rw [hMF] at LC WF
  obtain ⟨C2, hC2⟩ : ∃ V, ccell (c.tag g hg hgb) = V := ⟨_, rfl⟩; rw [hC2] at A3 SC2 WC2 EC SD2 WD2
  obtain ⟨T, hT⟩ : ∃ V, g.map (Value.int .u8) = V := ⟨_, rfl⟩; rw [hT] at ST NT OT WC2 WD2 ⊢
  obtain ⟨C, hC⟩ : ∃ V, ccell c = V := ⟨_, rfl⟩; rw [hC] at SC RC A1 LC DG NC WC2 ⊢
  obtain ⟨D, hD⟩ : ∃ V, ccell d = V := ⟨_, rfl⟩; rw [hD] at SD RD A2 ND WD2 ⊢
  clear hT hC hD hc hd
  clear hZ hX hG hMF hC2 he ht hg
  go_enter Try.func7, Try.ntmps7
  go_upto_region 1 with fail
  refine F_gen (F := fun W => Code.wp _ _ _ _ W) (J := fun W => Box W (w.heap.size) (C) ∧ Box W (w.heap.size + 1) (D) ∧ Box W (w.heap.size + 2) (T) ∧ Below w.heap.size w W) (And.intro (Box.alloc (Box.alloc (Box.newc rfl rfl) _) _) (And.intro (Box.alloc (Box.newc rfl (by simp)) _) (And.intro (Box.newc rfl (by simp)) (by go_grown)))) ?_
  intro w0 ⟨e_c, e_d, e_t, hB0⟩
  have hs0 := hB0.size
  have x_c0 := e_c; clear e_c
  have x_d0 := e_d; clear e_d
  have x_t0 := e_t; clear e_t
  go_wp2_with (refine wpList_load_box9 rfl _ _ rfl x_c0 rfl Try.underlying31 rfl SC.out ?_)
  refine (RC _).mono ?_
  rintro e w1 ⟨rfl, hb⟩
  clear RC
  have hB1 : Below w.heap.size w w1 := below_thru hB0 hb
  have hs1 := hB1.size
  have x_c1 : Box w1 (w.heap.size) (C) := Box.below x_c0 hb
  have x_d1 : Box w1 (w.heap.size + 1) (D) := Box.below x_d0 hb
  have x_t1 : Box w1 (w.heap.size + 2) (T) := Box.below x_t0 hb
  clear hB0 hs0 x_c0 x_d0 x_t0
  clear hb
  go_wp2_with (refine wpList_load_box9 rfl _ _ rfl x_d1 rfl Try.underlying31 rfl SD.out ?_)
  refine (RD _).mono ?_
  rintro e w2 ⟨rfl, hb⟩
  clear RD
  have hB2 : Below w.heap.size w w2 := below_thru hB1 hb
  have hs2 := hB2.size
  have x_c2 : Box w2 (w.heap.size) (C) := Box.below x_c1 hb
  have x_d2 : Box w2 (w.heap.size + 1) (D) := Box.below x_d1 hb
  have x_t2 : Box w2 (w.heap.size + 2) (T) := Box.below x_t1 hb
  clear hB1 hs1 x_c1 x_d1 x_t1
  clear hb
  have zt := (x_t2).lt
  go_wp2_with (refine wpList_load_box9 rfl _ _ rfl x_c2 rfl Try.underlying31 rfl SC.out ?_)
  refine (A1 _).mono ?_
  rintro e w3 ⟨va, rfl, hoa, hb⟩
  clear A1
  have hB3 : Below w.heap.size w w3 := below_thru hB2 hb
  have hs3 := hB3.size
  have x_c3 : Box w3 (w.heap.size) (C) := Box.below x_c2 hb
  have x_d3 : Box w3 (w.heap.size + 1) (D) := Box.below x_d2 hb
  have x_t3 : Box w3 (w.heap.size + 2) (T) := Box.below x_t2 hb
  clear hB2 hs2 x_c2 x_d2 x_t2
  clear hb
  obtain ⟨ga, ca, rfl, hga, lo_a, hi_a, hbx⟩ := own_box hoa (by rw [HX.out]; decide)
  rw [HX.out] at lo_a ⊢
  have low_a : w.heap.size + 2 < ga := by omega
  clear zt hga hoa
  have x_xa3 : Box w3 (ga) (X.map (Value.int .u8)) := hbx
  clear hbx
  have zt := (x_t3).lt
  go_wp2_with (refine wpList_load_box9 rfl _ _ rfl x_d3 rfl Try.underlying31 rfl SD.out ?_)
  refine (A2 _).mono ?_
  rintro e w4 ⟨va, rfl, hoa, hb⟩
  clear A2
  have hB4 : Below w.heap.size w w4 := below_thru hB3 hb
  have hs4 := hB4.size
  have x_c4 : Box w4 (w.heap.size) (C) := Box.below x_c3 hb
  have x_d4 : Box w4 (w.heap.size + 1) (D) := Box.below x_d3 hb
  have x_t4 : Box w4 (w.heap.size + 2) (T) := Box.below x_t3 hb
  have x_xa4 : Box w4 (ga) (X.map (Value.int .u8)) := Box.below x_xa3 hb
  clear hB3 hs3 x_c3 x_d3 x_t3 x_xa3
  clear hb
  obtain ⟨gb, cb, rfl, hga, lo_b, hi_b, hbx⟩ := own_box hoa (by rw [HY.out]; decide)
  rw [HY.out] at lo_b ⊢
  have low_b : w.heap.size + 2 < gb := by omega
  clear zt hga hoa
  have x_xb4 : Box w4 (gb) (X.map (Value.int .u8)) := hbx
  clear hbx
  have J_a4 : Hid (IsL w4 .u8 (.slice (some ⟨ga, 0, none⟩) 56 ca) X) := Lib.hid (IsL.range 56 ca HX.out x_xa4.range (by omega) (by omega))
  have J_b4 : Hid (IsL w4 .u8 (.slice (some ⟨gb, 0, none⟩) 56 cb) X) := Lib.hid (IsL.range 56 cb HY.out x_xb4.range (by omega) (by omega))
  go_wp2_with (refine wpList_load_box9 rfl _ _ rfl x_c4 rfl Try.underlying31 rfl SC.out ?_)
  refine (LC _).mono ?_
  rintro e w5 ⟨rfl, hb⟩
  clear LC
  have hB5 : Below w.heap.size w w5 := below_thru hB4 hb
  have hs5 := hB5.size
  have x_c5 : Box w5 (w.heap.size) (C) := Box.below x_c4 hb
  have x_d5 : Box w5 (w.heap.size + 1) (D) := Box.below x_d4 hb
  have x_t5 : Box w5 (w.heap.size + 2) (T) := Box.below x_t4 hb
  have x_xa5 : Box w5 (ga) (X.map (Value.int .u8)) := Box.below x_xa4 hb
  have x_xb5 : Box w5 (gb) (X.map (Value.int .u8)) := Box.below x_xb4 hb
  have J_a5 : Hid (IsL w5 .u8 (.slice (some ⟨ga, 0, none⟩) 56 ca) X) := Lib.hid (IsL.below J_a4.out hb)
  have J_b5 : Hid (IsL w5 .u8 (.slice (some ⟨gb, 0, none⟩) 56 cb) X) := Lib.hid (IsL.below J_b4.out hb)
  clear hB4 hs4 x_c4 x_d4 x_t4 x_xa4 x_xb4 J_a4 J_b4
  clear hb
  go_wp2_with fail
  refine (WF _).mono ?_
  rintro e w6 ⟨vz, rfl, hoz, hb⟩
  clear WF
  have hB6 : Below w.heap.size w w6 := below_thru hB5 hb
  have hs6 := hB6.size
  have x_c6 : Box w6 (w.heap.size) (C) := Box.below x_c5 hb
  have x_d6 : Box w6 (w.heap.size + 1) (D) := Box.below x_d5 hb
  have x_t6 : Box w6 (w.heap.size + 2) (T) := Box.below x_t5 hb
  have x_xa6 : Box w6 (ga) (X.map (Value.int .u8)) := Box.below x_xa5 hb
  have x_xb6 : Box w6 (gb) (X.map (Value.int .u8)) := Box.below x_xb5 hb
  have J_a6 : Hid (IsL w6 .u8 (.slice (some ⟨ga, 0, none⟩) 56 ca) X) := Lib.hid (IsL.below J_a5.out hb)
  have J_b6 : Hid (IsL w6 .u8 (.slice (some ⟨gb, 0, none⟩) 56 cb) X) := Lib.hid (IsL.below J_b5.out hb)
  clear hB5 hs5 x_c5 x_d5 x_t5 x_xa5 x_xb5 J_a5 J_b5
  clear hb
  have J_all6 : Hid (IsL w6 .u8 (vz) Z) := Lib.hid (IsL.own hoz rfl)
  clear hoz
  go_upto_region 6 with fail
  refine wp_region_held_drew (S := fun W => Box W (w.heap.size) (C) ∧ Box W (w.heap.size + 1) (D) ∧ Box W (w.heap.size + 2) (T) ∧ Box W (ga) (X.map (Value.int .u8)) ∧ Box W (gb) (X.map (Value.int .u8))) (by kernel_rfl) (And.intro (x_c6).drew (And.intro (x_d6).drew (And.intro (x_t6).drew (And.intro (x_xa6).drew (x_xb6).drew)))) (fun _ => ?_)
  refine F_drew (F := fun W => wpAnyH _ _ _ _ _ _ _ _ W) ?_
  intro Wa0 hba0
  clear hs6
  have x_c_a0 : Box Wa0 (w.heap.size) (C) := Box.below x_c6 hba0
  have x_d_a0 : Box Wa0 (w.heap.size + 1) (D) := Box.below x_d6 hba0
  have x_t_a0 : Box Wa0 (w.heap.size + 2) (T) := Box.below x_t6 hba0
  have x_xa_a0 : Box Wa0 (ga) (X.map (Value.int .u8)) := Box.below x_xa6 hba0
  have x_xb_a0 : Box Wa0 (gb) (X.map (Value.int .u8)) := Box.below x_xb6 hba0
  have j_a_a0 := Lib.hid (IsL.below J_a6.out hba0)
  have j_b_a0 := Lib.hid (IsL.below J_b6.out hba0)
  have j_all_a0 := Lib.hid (IsL.below J_all6.out hba0)
  have Ba0 := below_thru hB6 hba0
  clear x_c6 x_d6 x_t6 x_xa6 x_xb6 J_a6 J_b6 J_all6 hB6 hba0
  refine takeH 0 40 (v := ?va0_1) rfl (by rfl) (by kernel_rfl) (by kernel_rfl) (by kernel_rfl) (fun _ _ _ h => h) (Or.inl ⟨by rfl, ?_⟩) ((And.intro x_c_a0 (And.intro x_d_a0 (And.intro x_t_a0 (And.intro x_xa_a0 x_xb_a0))))) ?_
  rotate_left
  · intro wq hSq
    go_simp
    exact rfl
  try simp only [Act.put, List.setIfInBounds_toArray, List.set_cons_zero, List.set_cons_succ]
  refine takeH 1 41 (v := ?va1_2) rfl (by rfl) (by kernel_rfl) (by kernel_rfl) (by kernel_rfl) (fun _ _ _ h => h) (Or.inl ⟨by rfl, ?_⟩) ((And.intro x_c_a0 (And.intro x_d_a0 (And.intro x_t_a0 (And.intro x_xa_a0 x_xb_a0))))) ?_
  rotate_left
  · intro wq hSq
    go_simp
    exact rfl
  try simp only [Act.put, List.setIfInBounds_toArray, List.set_cons_zero, List.set_cons_succ]
  refine takeH 2 42 (v := ?va2_3) rfl (by rfl) (by kernel_rfl) (by kernel_rfl) (by kernel_rfl) (fun _ _ _ h => h) (Or.inl ⟨by rfl, ?_⟩) ((And.intro x_c_a0 (And.intro x_d_a0 (And.intro x_t_a0 (And.intro x_xa_a0 x_xb_a0))))) ?_
  rotate_left
  · intro wq hSq
    go_simp
    exact rfl
  try simp only [Act.put, List.setIfInBounds_toArray, List.set_cons_zero, List.set_cons_succ]
  refine takeH 3 43 (v := ?va3_4) rfl (by rfl) (by kernel_rfl) (by kernel_rfl) (by kernel_rfl) (fun _ _ _ h => h) (Or.inl ⟨by rfl, ?_⟩) ((And.intro x_c_a0 (And.intro x_d_a0 (And.intro x_t_a0 (And.intro x_xa_a0 x_xb_a0))))) ?_
  rotate_left
  · intro wq hSq
    go_simp
    exact rfl
  try simp only [Act.put, List.setIfInBounds_toArray, List.set_cons_zero, List.set_cons_succ]
  refine takeH 4 44 (v := ?va4_5) rfl (by rfl) (by kernel_rfl) (by kernel_rfl) (by kernel_rfl) (fun _ _ _ h => h) (Or.inl ⟨by rfl, ?_⟩) ((And.intro x_c_a0 (And.intro x_d_a0 (And.intro x_t_a0 (And.intro x_xa_a0 x_xb_a0))))) ?_
  rotate_left
  · intro wq hSq
    go_simp
    exact rfl
  try simp only [Act.put, List.setIfInBounds_toArray, List.set_cons_zero, List.set_cons_succ]
  refine takeH 5 45 (v := ?va5_6) rfl (by rfl) (by kernel_rfl) (by kernel_rfl) (by kernel_rfl) (fun _ _ _ h => h) (Or.inl ⟨by rfl, ?_⟩) ((And.intro x_c_a0 (And.intro x_d_a0 (And.intro x_t_a0 (And.intro x_xa_a0 x_xb_a0))))) ?_
  rotate_left
  · intro wq hSq
    go_simp
    exact rfl
  try simp only [Act.put, List.setIfInBounds_toArray, List.set_cons_zero, List.set_cons_succ]
  refine takeH 6 46 (v := ?va6_7) rfl (by rfl) (by kernel_rfl) (by kernel_rfl) (by kernel_rfl) (fun _ _ _ h => h) (Or.inl ⟨by rfl, ?_⟩) ((And.intro x_c_a0 (And.intro x_d_a0 (And.intro x_t_a0 (And.intro x_xa_a0 x_xb_a0))))) ?_
  rotate_left
  · intro wq hSq
    go_simp
    exact rfl
  try simp only [Act.put, List.setIfInBounds_toArray, List.set_cons_zero, List.set_cons_succ]
  refine takeH 7 47 (v := ?va7_8) rfl (by rfl) (by kernel_rfl) (by kernel_rfl) (by kernel_rfl) (fun _ _ _ h => h) (Or.inl ⟨by rfl, ?_⟩) ((And.intro x_c_a0 (And.intro x_d_a0 (And.intro x_t_a0 (And.intro x_xa_a0 x_xb_a0))))) ?_
  rotate_left
  · intro wq hSq
    go_simp
    exact rfl
  try simp only [Act.put, List.setIfInBounds_toArray, List.set_cons_zero, List.set_cons_succ]
  refine takeH 8 48 (v := ?va8_9) rfl (by rfl) (by kernel_rfl) (by kernel_rfl) (by kernel_rfl) (fun _ _ _ h => h) (Or.inl ⟨by rfl, ?_⟩) ((And.intro x_c_a0 (And.intro x_d_a0 (And.intro x_t_a0 (And.intro x_xa_a0 x_xb_a0))))) ?_
  rotate_left
  · intro wq hSq
    go_simp
    exact rfl
  try simp only [Act.put, List.setIfInBounds_toArray, List.set_cons_zero, List.set_cons_succ]
  refine takeH 9 49 (v := ?va9_10) rfl (by rfl) (by kernel_rfl) (by kernel_rfl) (by kernel_rfl) (fun _ _ _ h => h) (Or.inl ⟨by rfl, ?_⟩) ((And.intro x_c_a0 (And.intro x_d_a0 (And.intro x_t_a0 (And.intro x_xa_a0 x_xb_a0))))) ?_
  rotate_left
  · intro wq hSq
    go_simp
    exact rfl
  try simp only [Act.put, List.setIfInBounds_toArray, List.set_cons_zero, List.set_cons_succ]
  refine takeH 10 50 (v := ?va10_11) rfl (by rfl) (by kernel_rfl) (by kernel_rfl) (by kernel_rfl) (fun _ _ _ h => h) (Or.inl ⟨by rfl, ?_⟩) ((And.intro x_c_a0 (And.intro x_d_a0 (And.intro x_t_a0 (And.intro x_xa_a0 x_xb_a0))))) ?_
  rotate_left
  · intro wq hSq
    go_simp
    exact rfl
  try simp only [Act.put, List.setIfInBounds_toArray, List.set_cons_zero, List.set_cons_succ]
  refine takeH 11 51 (v := ?va11_12) rfl (by rfl) (by kernel_rfl) (by kernel_rfl) (by kernel_rfl) (fun _ _ _ h => h) (Or.inl ⟨by rfl, ?_⟩) ((And.intro x_c_a0 (And.intro x_d_a0 (And.intro x_t_a0 (And.intro x_xa_a0 x_xb_a0))))) ?_
  rotate_left
  · intro wq hSq
    go_simp
    exact rfl
  try simp only [Act.put, List.setIfInBounds_toArray, List.set_cons_zero, List.set_cons_succ]
  refine takeH 12 52 (v := ?va12_13) rfl (by rfl) (by kernel_rfl) (by kernel_rfl) (by kernel_rfl) (fun _ _ _ h => h) (Or.inl ⟨by rfl, ?_⟩) ((And.intro x_c_a0 (And.intro x_d_a0 (And.intro x_t_a0 (And.intro x_xa_a0 x_xb_a0))))) ?_
  rotate_left
  · intro wq hSq
    go_simp
    exact rfl
  try simp only [Act.put, List.setIfInBounds_toArray, List.set_cons_zero, List.set_cons_succ]
  refine takeH 13 53 (v := ?va13_14) rfl (by rfl) (by kernel_rfl) (by kernel_rfl) (by kernel_rfl) (fun _ _ _ h => h) (Or.inl ⟨by rfl, ?_⟩) ((And.intro x_c_a0 (And.intro x_d_a0 (And.intro x_t_a0 (And.intro x_xa_a0 x_xb_a0))))) ?_
  rotate_left
  · intro wq hSq
    go_simp
    exact rfl
  try simp only [Act.put, List.setIfInBounds_toArray, List.set_cons_zero, List.set_cons_succ]
  refine takeH 14 54 (v := ?va14_15) rfl (by rfl) (by kernel_rfl) (by kernel_rfl) (by kernel_rfl) (fun _ _ _ h => h) (Or.inl ⟨by rfl, ?_⟩) ((And.intro x_c_a0 (And.intro x_d_a0 (And.intro x_t_a0 (And.intro x_xa_a0 x_xb_a0))))) ?_
  rotate_left
  · intro wq hSq
    go_simp
    exact rfl
  try simp only [Act.put, List.setIfInBounds_toArray, List.set_cons_zero, List.set_cons_succ]
  refine takeH 15 55 (v := ?va15_16) rfl (by rfl) (by kernel_rfl) (by kernel_rfl) (by kernel_rfl) (fun _ _ _ h => h) (Or.inl ⟨by rfl, ?_⟩) ((And.intro x_c_a0 (And.intro x_d_a0 (And.intro x_t_a0 (And.intro x_xa_a0 x_xb_a0))))) ?_
  rotate_left
  · intro wq hSq
    go_simp
    exact rfl
  try simp only [Act.put, List.setIfInBounds_toArray, List.set_cons_zero, List.set_cons_succ]
  refine takeH 16 56 (v := ?va16_17) rfl (by rfl) (by kernel_rfl) (by kernel_rfl) (by kernel_rfl) (fun _ _ _ h => h) (Or.inl ⟨by rfl, ?_⟩) ((And.intro x_c_a0 (And.intro x_d_a0 (And.intro x_t_a0 (And.intro x_xa_a0 x_xb_a0))))) ?_
  rotate_left
  · intro wq hSq
    go_simp
    exact rfl
  try simp only [Act.put, List.setIfInBounds_toArray, List.set_cons_zero, List.set_cons_succ]
  refine takeH 17 57 (v := ?va17_18) rfl (by rfl) (by kernel_rfl) (by kernel_rfl) (by kernel_rfl) (fun _ _ _ h => h) (Or.inl ⟨by rfl, ?_⟩) ((And.intro x_c_a0 (And.intro x_d_a0 (And.intro x_t_a0 (And.intro x_xa_a0 x_xb_a0))))) ?_
  rotate_left
  · intro wq hSq
    go_simp
    exact rfl
  try simp only [Act.put, List.setIfInBounds_toArray, List.set_cons_zero, List.set_cons_succ]
  refine takeH 18 58 (v := ?va18_19) rfl (by rfl) (by kernel_rfl) (by kernel_rfl) (by kernel_rfl) (fun _ _ _ h => h) (Or.inl ⟨by rfl, ?_⟩) ((And.intro x_c_a0 (And.intro x_d_a0 (And.intro x_t_a0 (And.intro x_xa_a0 x_xb_a0))))) ?_
  rotate_left
  · intro wq hSq
    go_simp
    exact rfl
  try simp only [Act.put, List.setIfInBounds_toArray, List.set_cons_zero, List.set_cons_succ]
  refine takeH 19 59 (v := ?va19_20) rfl (by rfl) (by kernel_rfl) (by kernel_rfl) (by kernel_rfl) (fun _ _ _ h => h) (Or.inl ⟨by rfl, ?_⟩) ((And.intro x_c_a0 (And.intro x_d_a0 (And.intro x_t_a0 (And.intro x_xa_a0 x_xb_a0))))) ?_
  rotate_left
  · intro wq hSq
    go_simp
    exact rfl
  try simp only [Act.put, List.setIfInBounds_toArray, List.set_cons_zero, List.set_cons_succ]
  refine takeH 20 60 (v := ?va20_21) rfl (by rfl) (by kernel_rfl) (by kernel_rfl) (by kernel_rfl) (fun _ _ _ h => h) (Or.inl ⟨by rfl, ?_⟩) ((And.intro x_c_a0 (And.intro x_d_a0 (And.intro x_t_a0 (And.intro x_xa_a0 x_xb_a0))))) ?_
  rotate_left
  · intro wq hSq
    go_simp
    exact rfl
  try simp only [Act.put, List.setIfInBounds_toArray, List.set_cons_zero, List.set_cons_succ]
  refine takeH 21 61 (v := ?va21_22) rfl (by rfl) (by kernel_rfl) (by kernel_rfl) (by kernel_rfl) (fun _ _ _ h => h) (Or.inl ⟨by rfl, ?_⟩) ((And.intro x_c_a0 (And.intro x_d_a0 (And.intro x_t_a0 (And.intro x_xa_a0 x_xb_a0))))) ?_
  rotate_left
  · intro wq hSq
    go_simp
    exact rfl
  try simp only [Act.put, List.setIfInBounds_toArray, List.set_cons_zero, List.set_cons_succ]
  refine takeH 23 63 (v := ?va23_23) rfl (by rfl) (by kernel_rfl) (by kernel_rfl) (by kernel_rfl) (fun _ _ _ h => h) (Or.inl ⟨by rfl, ?_⟩) ((And.intro x_c_a0 (And.intro x_d_a0 (And.intro x_t_a0 (And.intro x_xa_a0 x_xb_a0))))) ?_
  rotate_left
  · intro wq hSq
    go_simp
    exact rfl
  try simp only [Act.put, List.setIfInBounds_toArray, List.set_cons_zero, List.set_cons_succ]
  refine takeH 25 65 (v := ?va25_24) rfl (by rfl) (by kernel_rfl) (by kernel_rfl) (by kernel_rfl) (fun _ _ _ h => h) (Or.inl ⟨by rfl, ?_⟩) ((And.intro x_c_a0 (And.intro x_d_a0 (And.intro x_t_a0 (And.intro x_xa_a0 x_xb_a0))))) ?_
  rotate_left
  · intro wq hSq
    go_simp
    exact rfl
  try simp only [Act.put, List.setIfInBounds_toArray, List.set_cons_zero, List.set_cons_succ]
  refine takeH 26 66 (v := ?va26_25) rfl (by rfl) (by kernel_rfl) (by kernel_rfl) (by kernel_rfl) (fun _ _ _ h => h) (Or.inl ⟨by rfl, ?_⟩) ((And.intro x_c_a0 (And.intro x_d_a0 (And.intro x_t_a0 (And.intro x_xa_a0 x_xb_a0))))) ?_
  rotate_left
  · intro wq hSq
    go_simp
    exact rfl
  try simp only [Act.put, List.setIfInBounds_toArray, List.set_cons_zero, List.set_cons_succ]
  refine wpAnyH_ready (rs := [22]) (by kernel_rfl) (by simp) (AllReadyH.cons rfl (fun K hK => ?_) AllReadyH.nil)
  have kk727_x_c_a0 := x_c_a0
  have kk727_x_d_a0 := x_d_a0
  have kk727_x_t_a0 := x_t_a0
  have kk727_x_xa_a0 := x_xa_a0
  have kk727_x_xb_a0 := x_xb_a0
  have kk727_j_a_a0 := j_a_a0
  have kk727_j_b_a0 := j_b_a0
  have kk727_j_all_a0 := j_all_a0
  have kk727_Ba0 := Ba0
  go_simp
  refine hK.out _ _ ((And.intro (Box.alloc x_c_a0 _) (And.intro (Box.alloc x_d_a0 _) (And.intro (Box.alloc x_t_a0 _) (And.intro (Box.alloc x_xa_a0 _) (Box.alloc x_xb_a0 _)))))) (fun _ => ?_); clear hK K
  refine F_own9 (F := fun W => wpAnyH _ _ _ _ _ _ _ _ W) (base := Wa0.heap.size) (Nat.le_refl _) ?_
  intro Wa26 oe hL26
  have hLk26 := hL26
  have x_c_a26 : Box Wa26 (w.heap.size) (C) := Box.below x_c_a0 hL26
  have x_d_a26 : Box Wa26 (w.heap.size + 1) (D) := Box.below x_d_a0 hL26
  have x_t_a26 : Box Wa26 (w.heap.size + 2) (T) := Box.below x_t_a0 hL26
  have x_xa_a26 : Box Wa26 (ga) (X.map (Value.int .u8)) := Box.below x_xa_a0 hL26
  have x_xb_a26 : Box Wa26 (gb) (X.map (Value.int .u8)) := Box.below x_xb_a0 hL26
  have j_a_a26 := Lib.hid (IsL.below j_a_a0.out hL26)
  have j_b_a26 := Lib.hid (IsL.below j_b_a0.out hL26)
  have j_all_a26 := Lib.hid (IsL.below j_all_a0.out hL26)
  have Ba26 := below_thru Ba0 hL26
  clear x_c_a0 x_d_a0 x_t_a0 x_xa_a0 x_xb_a0 j_a_a0 j_b_a0 j_all_a0 Ba0 
  clear hL26
  refine wpAnyH_ready (rs := [24]) (by kernel_rfl) (by simp) (AllReadyH.cons rfl (fun K hK => ?_) AllReadyH.nil)
  refine step_append_ints9 64 rfl (by rfl) _ _ 33 rfl Wa0.heap.size 5 ti (.int .u8 0) 1 .u8 Try.underlying33 hin hz0 hz1 hz2 rfl _ 0 _ rfl oe _ X rfl j_a_a26.out (by rw [HX.out]; decide) (by rw [HX.out]; decide) (Below.size hLk26) ?_
  intro va28 Wa28 oz28 hbm28
  have hL28 := Below.trans hLk26 hbm28
  have hLk28 := hL28
  rw [HX.out, List.map_nil, List.nil_append] at oz28
  have kk729_kk727_x_c_a0 := kk727_x_c_a0
  have kk729_kk727_x_d_a0 := kk727_x_d_a0
  have kk729_kk727_x_t_a0 := kk727_x_t_a0
  have kk729_kk727_x_xa_a0 := kk727_x_xa_a0
  have kk729_kk727_x_xb_a0 := kk727_x_xb_a0
  have kk729_kk727_j_a_a0 := kk727_j_a_a0
  have kk729_kk727_j_b_a0 := kk727_j_b_a0
  have kk729_kk727_j_all_a0 := kk727_j_all_a0
  have kk729_kk727_Ba0 := kk727_Ba0
  have x_c_a28 : Box Wa28 (w.heap.size) (C) := Box.below kk727_x_c_a0 hL28
  have x_d_a28 : Box Wa28 (w.heap.size + 1) (D) := Box.below kk727_x_d_a0 hL28
  have x_t_a28 : Box Wa28 (w.heap.size + 2) (T) := Box.below kk727_x_t_a0 hL28
  have x_xa_a28 : Box Wa28 (ga) (X.map (Value.int .u8)) := Box.below kk727_x_xa_a0 hL28
  have x_xb_a28 : Box Wa28 (gb) (X.map (Value.int .u8)) := Box.below kk727_x_xb_a0 hL28
  have j_a_a28 := Lib.hid (IsL.below kk727_j_a_a0.out hL28)
  have j_b_a28 := Lib.hid (IsL.below kk727_j_b_a0.out hL28)
  have j_all_a28 := Lib.hid (IsL.below kk727_j_all_a0.out hL28)
  have Ba28 := below_thru kk727_Ba0 hL28
  clear kk727_x_c_a0 kk727_x_d_a0 kk727_x_t_a0 kk727_x_xa_a0 kk727_x_xb_a0 kk727_j_a_a0 kk727_j_b_a0 kk727_j_all_a0 kk727_Ba0 
  clear hL28 hbm28 oe hLk26 x_c_a26 x_d_a26 x_t_a26 x_xa_a26 x_xb_a26 Ba26 j_a_a26 j_b_a26 j_all_a26
  refine hK.out _ _ (And.intro x_c_a28 (And.intro x_d_a28 (And.intro x_t_a28 (And.intro x_xa_a28 x_xb_a28)))) (fun _ => ?_); clear hK K
  refine wpAnyH_ready (rs := [27]) (by kernel_rfl) (by simp) (AllReadyH.cons rfl (fun K hK => ?_) AllReadyH.nil)
  have j_g_a931 : Hid (IsL Wa28 .u8 (.slice (some ⟨w.heap.size, 15, none⟩) 32 32) (G)) := Lib.hid (IsL.range 32 32 HG.out (Box.rangeMid x_c_a28 15 (G.map (Value.int .u8)) [] DG.out) (by omega) (by omega))
  refine step_append_ints9 67 rfl (by rfl) _ _ 33 rfl Wa0.heap.size 5 ti (.int .u8 0) 1 .u8 Try.underlying33 hin hz0 hz1 hz2 rfl _ (0 + 56) _ rfl oz28 _ G rfl j_g_a931.out (by rw [HG.out]; decide) (by rw [HG.out]; decide) (Below.size hLk28) ?_
  intro va30 Wa30 oz30 hbm30
  have hL30 := Below.trans hLk28 hbm30
  have hLk30 := hL30
  rw [HG.out, HZ.out] at oz30
  have kk732_kk729_kk727_x_c_a0 := kk729_kk727_x_c_a0
  have kk732_kk729_kk727_x_d_a0 := kk729_kk727_x_d_a0
  have kk732_kk729_kk727_x_t_a0 := kk729_kk727_x_t_a0
  have kk732_kk729_kk727_x_xa_a0 := kk729_kk727_x_xa_a0
  have kk732_kk729_kk727_x_xb_a0 := kk729_kk727_x_xb_a0
  have kk732_kk729_kk727_j_a_a0 := kk729_kk727_j_a_a0
  have kk732_kk729_kk727_j_b_a0 := kk729_kk727_j_b_a0
  have kk732_kk729_kk727_j_all_a0 := kk729_kk727_j_all_a0
  have kk732_kk729_kk727_Ba0 := kk729_kk727_Ba0
  have x_c_a30 : Box Wa30 (w.heap.size) (C) := Box.below kk729_kk727_x_c_a0 hL30
  have x_d_a30 : Box Wa30 (w.heap.size + 1) (D) := Box.below kk729_kk727_x_d_a0 hL30
  have x_t_a30 : Box Wa30 (w.heap.size + 2) (T) := Box.below kk729_kk727_x_t_a0 hL30
  have x_xa_a30 : Box Wa30 (ga) (X.map (Value.int .u8)) := Box.below kk729_kk727_x_xa_a0 hL30
  have x_xb_a30 : Box Wa30 (gb) (X.map (Value.int .u8)) := Box.below kk729_kk727_x_xb_a0 hL30
  have j_a_a30 := Lib.hid (IsL.below kk729_kk727_j_a_a0.out hL30)
  have j_b_a30 := Lib.hid (IsL.below kk729_kk727_j_b_a0.out hL30)
  have j_all_a30 := Lib.hid (IsL.below kk729_kk727_j_all_a0.out hL30)
  have Ba30 := below_thru kk729_kk727_Ba0 hL30
  clear kk729_kk727_x_c_a0 kk729_kk727_x_d_a0 kk729_kk727_x_t_a0 kk729_kk727_x_xa_a0 kk729_kk727_x_xb_a0 kk729_kk727_j_a_a0 kk729_kk727_j_b_a0 kk729_kk727_j_all_a0 kk729_kk727_Ba0 
  clear hL30 hbm30 oz28 hLk28 x_c_a28 x_d_a28 x_t_a28 x_xa_a28 x_xb_a28 Ba28 j_a_a28 j_b_a28 j_all_a28 j_g_a931
  have j_z_a933 : Hid (IsL Wa30 .u8 (va30) (Z)) := Lib.hid (IsL.own oz30 (by rw [HW.out]))
  clear oz30 hLk30 kk732_kk729_kk727_x_c_a0 kk732_kk729_kk727_x_d_a0 kk732_kk729_kk727_x_t_a0 kk732_kk729_kk727_x_xa_a0 kk732_kk729_kk727_x_xb_a0 kk732_kk729_kk727_Ba0 kk732_kk729_kk727_j_a_a0 kk732_kk729_kk727_j_b_a0 kk732_kk729_kk727_j_all_a0
  refine hK.out _ _ (And.intro x_c_a30 (And.intro x_d_a30 (And.intro x_t_a30 (And.intro x_xa_a30 x_xb_a30)))) (fun _ => ?_); clear hK K
  refine wpAnyH_ready (rs := [28]) (by kernel_rfl) (by simp) (AllReadyH.cons rfl (fun K hK => ?_) AllReadyH.nil)
  go_simp
  refine (sameb_tt _ j_all_a30.out j_z_a933.out).mono ?_
  rintro e Wa34 ⟨rfl, hba34⟩
  have x_c_a34 : Box Wa34 (w.heap.size) (C) := Box.below x_c_a30 hba34
  have x_d_a34 : Box Wa34 (w.heap.size + 1) (D) := Box.below x_d_a30 hba34
  have x_t_a34 : Box Wa34 (w.heap.size + 2) (T) := Box.below x_t_a30 hba34
  have x_xa_a34 : Box Wa34 (ga) (X.map (Value.int .u8)) := Box.below x_xa_a30 hba34
  have x_xb_a34 : Box Wa34 (gb) (X.map (Value.int .u8)) := Box.below x_xb_a30 hba34
  have j_a_a34 := Lib.hid (IsL.below j_a_a30.out hba34)
  have j_b_a34 := Lib.hid (IsL.below j_b_a30.out hba34)
  have j_all_a34 := Lib.hid (IsL.below j_all_a30.out hba34)
  have j_z_a34 := Lib.hid (IsL.below j_z_a933.out hba34)
  have Ba34 := below_thru Ba30 hba34
  clear x_c_a30 x_d_a30 x_t_a30 x_xa_a30 x_xb_a30 j_a_a30 j_b_a30 j_all_a30 j_z_a933 Ba30 hba34
  refine hK.out _ _ (And.intro x_c_a34 (And.intro x_d_a34 (And.intro x_t_a34 (And.intro x_xa_a34 x_xb_a34)))) (fun _ => ?_); clear hK K
  refine takeH 29 69 (v := ?va29_35) rfl (by rfl) (by kernel_rfl) (by kernel_rfl) (by kernel_rfl) (fun _ _ _ h => h) (Or.inl ⟨by rfl, ?_⟩) ((And.intro x_c_a34 (And.intro x_d_a34 (And.intro x_t_a34 (And.intro x_xa_a34 x_xb_a34))))) ?_
  rotate_left
  · intro wq hSq
    go_simp
    exact rfl
  try simp only [Act.put, List.setIfInBounds_toArray, List.set_cons_zero, List.set_cons_succ]
  refine takeH 30 70 (v := ?va30_36) rfl (by rfl) (by kernel_rfl) (by kernel_rfl) (by kernel_rfl) (fun _ _ _ h => h) (Or.inl ⟨by rfl, ?_⟩) ((And.intro x_c_a34 (And.intro x_d_a34 (And.intro x_t_a34 (And.intro x_xa_a34 x_xb_a34))))) ?_
  rotate_left
  · intro wq hSq
    go_simp
    exact rfl
  try simp only [Act.put, List.setIfInBounds_toArray, List.set_cons_zero, List.set_cons_succ]
  refine wpAnyH_done (by kernel_rfl) ?_ _
  have hB7 := Ba34; have hs7 := hB7.size
  have x_c7 := x_c_a34
  have x_d7 := x_d_a34
  have x_t7 := x_t_a34
  have x_xa7 := x_xa_a34
  have x_xb7 := x_xb_a34
  have J_a7 := j_a_a34
  have J_b7 := j_b_a34
  have J_all7 := j_all_a34
  have J_z7 := j_z_a34
  clear Ba34 x_c_a34 x_d_a34 x_t_a34 x_xa_a34 x_xb_a34 j_a_a34 j_b_a34 j_all_a34 j_z_a34
  clear J_z7 J_all7
  go_upto_region 8 with fail
  refine wp_region_held_drew (S := fun W => Box W (w.heap.size + 2) (T) ∧ Box W (ga) (X.map (Value.int .u8)) ∧ Box W (gb) (X.map (Value.int .u8))) (by kernel_rfl) (And.intro (x_t7).drew (And.intro (x_xa7).drew (x_xb7).drew)) (fun _ => ?_)
  refine F_drew (F := fun W => wpAnyH _ _ _ _ _ _ _ _ W) ?_
  intro Wb0 hbb0
  clear hs7
  have x_t_b0 : Box Wb0 (w.heap.size + 2) (T) := Box.below x_t7 hbb0
  have x_xa_b0 : Box Wb0 (ga) (X.map (Value.int .u8)) := Box.below x_xa7 hbb0
  have x_xb_b0 : Box Wb0 (gb) (X.map (Value.int .u8)) := Box.below x_xb7 hbb0
  have z_c_b0 : Box Wb0 (w.heap.size) (C) := Box.below x_c7 hbb0
  have z_d_b0 : Box Wb0 (w.heap.size + 1) (D) := Box.below x_d7 hbb0
  have j_a_b0 := Lib.hid (IsL.below J_a7.out hbb0)
  have j_b_b0 := Lib.hid (IsL.below J_b7.out hbb0)
  have Bb0 := below_thru hB7 hbb0
  clear x_t7 x_xa7 x_xb7 x_c7 x_d7 J_a7 J_b7 hB7 hbb0
  refine takeH 0 71 (v := .agg (T).toArray) rfl (by rfl) (by kernel_rfl) (by kernel_rfl) (by kernel_rfl) (fun _ _ _ h => h) (yieldsIf_load_mid (by rfl) _ _ rfl _ _ rfl (T) _ (fun wq hq => Box.range (hq.1)) Try.underlying29 rfl ST.out) ((And.intro x_t_b0 (And.intro x_xa_b0 x_xb_b0))) ?_
  try simp only [Act.put, List.setIfInBounds_toArray, List.set_cons_zero, List.set_cons_succ]
  refine takeH 2 73 (v := ?vb2_1) rfl (by rfl) (by kernel_rfl) (by kernel_rfl) (by kernel_rfl) (fun _ _ _ h => h) (Or.inl ⟨by rfl, ?_⟩) ((And.intro x_t_b0 (And.intro x_xa_b0 x_xb_b0))) ?_
  rotate_left
  · intro wq hSq
    go_simp
    exact rfl
  try simp only [Act.put, List.setIfInBounds_toArray, List.set_cons_zero, List.set_cons_succ]
  refine takeH 1 72 (v := .agg (T).toArray) rfl (by rfl) (by kernel_rfl) (by kernel_rfl) (by kernel_rfl) (fun _ _ _ h => h) (yieldsIf_load_mid (by rfl) _ _ rfl _ _ rfl (T) _ (fun wq hq => Box.range (hq.1)) Try.underlying29 rfl ST.out) ((And.intro x_t_b0 (And.intro x_xa_b0 x_xb_b0))) ?_
  try simp only [Act.put, List.setIfInBounds_toArray, List.set_cons_zero, List.set_cons_succ]
  refine wpAnyH_ready (rs := [3]) (by kernel_rfl) (by simp) (AllReadyH.cons rfl (fun K hK => ?_) AllReadyH.nil)
  have nz_t := (x_t_b0).lt
  have nz_xa := (x_xa_b0).lt
  have nz_xb := (x_xb_b0).lt
  refine step_store_part0 (k := 15) (cs := T) (ws := C2) rfl rfl _ _ _ rfl z_c_b0 rfl rfl ST.out (by rw [NT.out, NC.out]; decide) WC2.out OT.out ?_
  intro Wb2 hWb2
  have x_t_b2 : Box Wb2 (w.heap.size + 2) (T) := hWb2.past _ _ (by omega) x_t_b0
  have x_xa_b2 : Box Wb2 (ga) (X.map (Value.int .u8)) := hWb2.past _ _ (by omega) x_xa_b0
  have x_xb_b2 : Box Wb2 (gb) (X.map (Value.int .u8)) := hWb2.past _ _ (by omega) x_xb_b0
  have z_c_b2 := hWb2.box
  have z_d_b2 : Box Wb2 (w.heap.size + 1) (D) := hWb2.past _ _ (by omega) z_d_b0
  have Bb2 := hWb2.below _ _ (by omega) Bb0
  clear nz_t nz_xa nz_xb x_t_b0 x_xa_b0 x_xb_b0 z_c_b0 z_d_b0 Bb0 j_a_b0 j_b_b0 hWb2
  refine hK.out _ _ (And.intro x_t_b2 (And.intro x_xa_b2 x_xb_b2)) (fun _ => ?_); clear hK K
  refine takeH 4 74 (v := ?vb4_3) rfl (by rfl) (by kernel_rfl) (by kernel_rfl) (by kernel_rfl) (fun _ _ _ h => h) (Or.inl ⟨by rfl, ?_⟩) ((And.intro x_t_b2 (And.intro x_xa_b2 x_xb_b2))) ?_
  rotate_left
  · intro wq hSq
    go_simp
    exact rfl
  try simp only [Act.put, List.setIfInBounds_toArray, List.set_cons_zero, List.set_cons_succ]
  refine wpAnyH_ready (rs := [5]) (by kernel_rfl) (by simp) (AllReadyH.cons rfl (fun K hK => ?_) AllReadyH.nil)
  have nz_t := (x_t_b2).lt
  have nz_xa := (x_xa_b2).lt
  have nz_xb := (x_xb_b2).lt
  refine step_store_part0 (k := 15) (cs := T) (ws := C2) rfl rfl _ _ _ rfl z_d_b2 rfl rfl ST.out (by rw [NT.out, ND.out]; decide) WD2.out OT.out ?_
  intro Wb4 hWb4
  have x_t_b4 : Box Wb4 (w.heap.size + 2) (T) := hWb4.past _ _ (by omega) x_t_b2
  have x_xa_b4 : Box Wb4 (ga) (X.map (Value.int .u8)) := hWb4.past _ _ (by omega) x_xa_b2
  have x_xb_b4 : Box Wb4 (gb) (X.map (Value.int .u8)) := hWb4.past _ _ (by omega) x_xb_b2
  have z_c_b4 : Box Wb4 (w.heap.size) (C2) := hWb4.past _ _ (by omega) z_c_b2
  have z_d_b4 := hWb4.box
  have Bb4 := hWb4.below _ _ (by omega) Bb2
  clear nz_t nz_xa nz_xb x_t_b2 x_xa_b2 x_xb_b2 z_c_b2 z_d_b2 Bb2 hWb4
  refine hK.out _ _ (And.intro x_t_b4 (And.intro x_xa_b4 x_xb_b4)) (fun _ => ?_); clear hK K
  refine wpAnyH_done (by kernel_rfl) ?_ _
  have hB8 := Bb4; have hs8 := hB8.size
  have x_t8 := x_t_b4
  have x_xa8 := x_xa_b4
  have x_xb8 := x_xb_b4
  have x_c8 := z_c_b4
  have x_d8 := z_d_b4
  clear Bb4 x_t_b4 x_xa_b4 x_xb_b4 z_c_b4 z_d_b4
  clear x_t8
  have J_a8 : Hid (IsL Wb4 .u8 (.slice (some ⟨ga, 0, none⟩) 56 ca) X) := Lib.hid (IsL.range 56 ca HX.out x_xa8.range (by omega) (by omega))
  have J_b8 : Hid (IsL Wb4 .u8 (.slice (some ⟨gb, 0, none⟩) 56 cb) X) := Lib.hid (IsL.range 56 cb HY.out x_xb8.range (by omega) (by omega))
  go_wp2_with (refine wpList_load_box9 rfl _ _ rfl x_c8 rfl Try.underlying31 rfl SC2.out ?_)
  refine (A3 _).mono ?_
  rintro e w9 ⟨vo, rfl, ha, hb⟩
  clear A3
  have hB9 : Below w.heap.size w w9 := below_thru hB8 hb
  have hs9 := hB9.size
  have x_c9 : Box w9 (w.heap.size) (C2) := Box.below x_c8 hb
  have x_d9 : Box w9 (w.heap.size + 1) (C2) := Box.below x_d8 hb
  have x_xa9 : Box w9 (ga) (X.map (Value.int .u8)) := Box.below x_xa8 hb
  have x_xb9 : Box w9 (gb) (X.map (Value.int .u8)) := Box.below x_xb8 hb
  have J_a9 : Hid (IsL w9 .u8 (.slice (some ⟨ga, 0, none⟩) 56 ca) X) := Lib.hid (IsL.below J_a8.out hb)
  have J_b9 : Hid (IsL w9 .u8 (.slice (some ⟨gb, 0, none⟩) 56 cb) X) := Lib.hid (IsL.below J_b8.out hb)
  clear hB8 hs8 x_c8 x_d8 x_xa8 x_xb8 J_a8 J_b8
  clear hb
  have J_o9 : Hid (IsL w9 .u8 (vo) X) := Lib.hid ha
  clear ha
  go_upto_region 10 with fail
  refine wp_region_held_drew (S := fun W => Box W (w.heap.size) (C2) ∧ Box W (w.heap.size + 1) (C2) ∧ Box W (ga) (X.map (Value.int .u8)) ∧ Box W (gb) (X.map (Value.int .u8))) (by kernel_rfl) (And.intro (x_c9).drew (And.intro (x_d9).drew (And.intro (x_xa9).drew (x_xb9).drew))) (fun _ => ?_)
  refine F_drew (F := fun W => wpAnyH _ _ _ _ _ _ _ _ W) ?_
  intro Wz0 hbz0
  clear hs9
  have x_c_z0 : Box Wz0 (w.heap.size) (C2) := Box.below x_c9 hbz0
  have x_d_z0 : Box Wz0 (w.heap.size + 1) (C2) := Box.below x_d9 hbz0
  have x_xa_z0 : Box Wz0 (ga) (X.map (Value.int .u8)) := Box.below x_xa9 hbz0
  have x_xb_z0 : Box Wz0 (gb) (X.map (Value.int .u8)) := Box.below x_xb9 hbz0
  have j_a_z0 := Lib.hid (IsL.below J_a9.out hbz0)
  have j_b_z0 := Lib.hid (IsL.below J_b9.out hbz0)
  have j_o_z0 := Lib.hid (IsL.below J_o9.out hbz0)
  have Bz0 := below_thru hB9 hbz0
  clear x_c9 x_d9 x_xa9 x_xb9 J_a9 J_b9 J_o9 hB9 hbz0
  refine takeH 0 80 (v := ?vz0_1) rfl (by rfl) (by kernel_rfl) (by kernel_rfl) (by kernel_rfl) (fun _ _ _ h => h) (Or.inl ⟨by rfl, ?_⟩) ((And.intro x_c_z0 (And.intro x_d_z0 (And.intro x_xa_z0 x_xb_z0)))) ?_
  rotate_left
  · intro wq hSq
    go_simp
    exact rfl
  try simp only [Act.put, List.setIfInBounds_toArray, List.set_cons_zero, List.set_cons_succ]
  refine takeH 1 81 (v := ?vz1_2) rfl (by rfl) (by kernel_rfl) (by kernel_rfl) (by kernel_rfl) (fun _ _ _ h => h) (Or.inl ⟨by rfl, ?_⟩) ((And.intro x_c_z0 (And.intro x_d_z0 (And.intro x_xa_z0 x_xb_z0)))) ?_
  rotate_left
  · intro wq hSq
    go_simp
    exact rfl
  try simp only [Act.put, List.setIfInBounds_toArray, List.set_cons_zero, List.set_cons_succ]
  refine takeH 2 82 (v := ?vz2_3) rfl (by rfl) (by kernel_rfl) (by kernel_rfl) (by kernel_rfl) (fun _ _ _ h => h) (Or.inl ⟨by rfl, ?_⟩) ((And.intro x_c_z0 (And.intro x_d_z0 (And.intro x_xa_z0 x_xb_z0)))) ?_
  rotate_left
  · intro wq hSq
    go_simp
    exact rfl
  try simp only [Act.put, List.setIfInBounds_toArray, List.set_cons_zero, List.set_cons_succ]
  refine takeH 3 83 (v := ?vz3_4) rfl (by rfl) (by kernel_rfl) (by kernel_rfl) (by kernel_rfl) (fun _ _ _ h => h) (Or.inl ⟨by rfl, ?_⟩) ((And.intro x_c_z0 (And.intro x_d_z0 (And.intro x_xa_z0 x_xb_z0)))) ?_
  rotate_left
  · intro wq hSq
    go_simp
    exact rfl
  try simp only [Act.put, List.setIfInBounds_toArray, List.set_cons_zero, List.set_cons_succ]
  refine takeH 4 84 (v := ?vz4_5) rfl (by rfl) (by kernel_rfl) (by kernel_rfl) (by kernel_rfl) (fun _ _ _ h => h) (Or.inl ⟨by rfl, ?_⟩) ((And.intro x_c_z0 (And.intro x_d_z0 (And.intro x_xa_z0 x_xb_z0)))) ?_
  rotate_left
  · intro wq hSq
    go_simp
    exact rfl
  try simp only [Act.put, List.setIfInBounds_toArray, List.set_cons_zero, List.set_cons_succ]
  refine wpAnyH_ready (rs := [5]) (by kernel_rfl) (by simp) (AllReadyH.cons rfl (fun K hK => ?_) AllReadyH.nil)
  go_simp
  refine (sameb_tt _ j_a_z0.out j_o_z0.out).mono ?_
  rintro e Wz6 ⟨rfl, hbz6⟩
  have x_c_z6 : Box Wz6 (w.heap.size) (C2) := Box.below x_c_z0 hbz6
  have x_d_z6 : Box Wz6 (w.heap.size + 1) (C2) := Box.below x_d_z0 hbz6
  have x_xa_z6 : Box Wz6 (ga) (X.map (Value.int .u8)) := Box.below x_xa_z0 hbz6
  have x_xb_z6 : Box Wz6 (gb) (X.map (Value.int .u8)) := Box.below x_xb_z0 hbz6
  have j_a_z6 := Lib.hid (IsL.below j_a_z0.out hbz6)
  have j_b_z6 := Lib.hid (IsL.below j_b_z0.out hbz6)
  have j_o_z6 := Lib.hid (IsL.below j_o_z0.out hbz6)
  have Bz6 := below_thru Bz0 hbz6
  clear x_c_z0 x_d_z0 x_xa_z0 x_xb_z0 j_a_z0 j_b_z0 j_o_z0 Bz0 hbz6
  refine hK.out _ _ (And.intro x_c_z6 (And.intro x_d_z6 (And.intro x_xa_z6 x_xb_z6))) (fun _ => ?_); clear hK K
  refine takeH 6 86 (v := ?vz6_7) rfl (by rfl) (by kernel_rfl) (by kernel_rfl) (by kernel_rfl) (fun _ _ _ h => h) (Or.inl ⟨by rfl, ?_⟩) ((And.intro x_c_z6 (And.intro x_d_z6 (And.intro x_xa_z6 x_xb_z6)))) ?_
  rotate_left
  · intro wq hSq
    go_simp
    exact rfl
  try simp only [Act.put, List.setIfInBounds_toArray, List.set_cons_zero, List.set_cons_succ]
  refine takeH 7 87 (v := ?vz7_8) rfl (by rfl) (by kernel_rfl) (by kernel_rfl) (by kernel_rfl) (fun _ _ _ h => h) (Or.inl ⟨by rfl, ?_⟩) ((And.intro x_c_z6 (And.intro x_d_z6 (And.intro x_xa_z6 x_xb_z6)))) ?_
  rotate_left
  · intro wq hSq
    go_simp
    exact rfl
  try simp only [Act.put, List.setIfInBounds_toArray, List.set_cons_zero, List.set_cons_succ]
  refine takeH 11 91 (v := ?vz11_9) rfl (by rfl) (by kernel_rfl) (by kernel_rfl) (by kernel_rfl) (fun _ _ _ h => h) (Or.inl ⟨by rfl, ?_⟩) ((And.intro x_c_z6 (And.intro x_d_z6 (And.intro x_xa_z6 x_xb_z6)))) ?_
  rotate_left
  · intro wq hSq
    go_simp
    exact rfl
  try simp only [Act.put, List.setIfInBounds_toArray, List.set_cons_zero, List.set_cons_succ]
  refine takeH 12 92 (v := ?vz12_10) rfl (by rfl) (by kernel_rfl) (by kernel_rfl) (by kernel_rfl) (fun _ _ _ h => h) (Or.inl ⟨by rfl, ?_⟩) ((And.intro x_c_z6 (And.intro x_d_z6 (And.intro x_xa_z6 x_xb_z6)))) ?_
  rotate_left
  · intro wq hSq
    go_simp
    exact rfl
  try simp only [Act.put, List.setIfInBounds_toArray, List.set_cons_zero, List.set_cons_succ]
  refine takeH 8 88 (v := .agg (C2).toArray) rfl (by rfl) (by kernel_rfl) (by kernel_rfl) (by kernel_rfl) (fun _ _ _ h => h) (yieldsIf_load_mid (by rfl) _ _ rfl _ _ rfl (C2) _ (fun wq hq => Box.range (hq.1)) Try.underlying31 rfl SC2.out) ((And.intro x_c_z6 (And.intro x_d_z6 (And.intro x_xa_z6 x_xb_z6)))) ?_
  try simp only [Act.put, List.setIfInBounds_toArray, List.set_cons_zero, List.set_cons_succ]
  refine takeH 9 89 (v := .agg (C2).toArray) rfl (by rfl) (by kernel_rfl) (by kernel_rfl) (by kernel_rfl) (fun _ _ _ h => h) (yieldsIf_load_mid (by rfl) _ _ rfl _ _ rfl (C2) _ (fun wq hq => Box.range (hq.2.1)) Try.underlying31 rfl SD2.out) ((And.intro x_c_z6 (And.intro x_d_z6 (And.intro x_xa_z6 x_xb_z6)))) ?_
  try simp only [Act.put, List.setIfInBounds_toArray, List.set_cons_zero, List.set_cons_succ]
  refine takeH 10 90 (v := ?vz10_11) rfl (by rfl) (by kernel_rfl) (by kernel_rfl) (by kernel_rfl) (fun _ _ _ h => h) (Or.inl ⟨by rfl, ?_⟩) ((And.intro x_c_z6 (And.intro x_d_z6 (And.intro x_xa_z6 x_xb_z6)))) ?_
  rotate_left
  · intro wq hSq
    go_simp
    exact rfl
  try simp only [Act.put, List.setIfInBounds_toArray, List.set_cons_zero, List.set_cons_succ]
  refine wpAnyH_ready (rs := [13]) (by kernel_rfl) (by simp) (AllReadyH.cons rfl (fun K hK => ?_) AllReadyH.nil)
  go_simp
  refine (sameb_tt _ j_a_z6.out j_b_z6.out).mono ?_
  rintro e Wz12 ⟨rfl, hbz12⟩
  have x_c_z12 : Box Wz12 (w.heap.size) (C2) := Box.below x_c_z6 hbz12
  have x_d_z12 : Box Wz12 (w.heap.size + 1) (C2) := Box.below x_d_z6 hbz12
  have x_xa_z12 : Box Wz12 (ga) (X.map (Value.int .u8)) := Box.below x_xa_z6 hbz12
  have x_xb_z12 : Box Wz12 (gb) (X.map (Value.int .u8)) := Box.below x_xb_z6 hbz12
  have j_a_z12 := Lib.hid (IsL.below j_a_z6.out hbz12)
  have j_b_z12 := Lib.hid (IsL.below j_b_z6.out hbz12)
  have j_o_z12 := Lib.hid (IsL.below j_o_z6.out hbz12)
  have Bz12 := below_thru Bz6 hbz12
  clear x_c_z6 x_d_z6 x_xa_z6 x_xb_z6 j_a_z6 j_b_z6 j_o_z6 Bz6 hbz12
  refine hK.out _ _ (And.intro x_c_z12 (And.intro x_d_z12 (And.intro x_xa_z12 x_xb_z12))) (fun _ => ?_); clear hK K
  refine takeH 14 94 (v := ?vz14_13) rfl (by rfl) (by kernel_rfl) (by kernel_rfl) (by kernel_rfl) (fun _ _ _ h => h) (Or.inl ⟨by rfl, ?_⟩) ((And.intro x_c_z12 (And.intro x_d_z12 (And.intro x_xa_z12 x_xb_z12)))) ?_
  rotate_left
  · intro wq hSq
    go_simp
    exact rfl
  try simp only [Act.put, List.setIfInBounds_toArray, List.set_cons_zero, List.set_cons_succ]
  refine takeH 15 95 (v := ?vz15_14) rfl (by rfl) (by kernel_rfl) (by kernel_rfl) (by kernel_rfl) (fun _ _ _ h => h) (Or.inl ⟨by rfl, ?_⟩) ((And.intro x_c_z12 (And.intro x_d_z12 (And.intro x_xa_z12 x_xb_z12)))) ?_
  rotate_left
  · intro wq hSq
    go_simp
    exact rfl
  try simp only [Act.put, List.setIfInBounds_toArray, List.set_cons_zero, List.set_cons_succ]
  refine takeH 16 96 (v := ?vz16_15) rfl (by rfl) (by kernel_rfl) (by kernel_rfl) (by kernel_rfl) (fun _ _ _ h => h) (Or.inl ⟨by rfl, ?_⟩) ((And.intro x_c_z12 (And.intro x_d_z12 (And.intro x_xa_z12 x_xb_z12)))) ?_
  rotate_left
  · intro wq hSq
    go_simp
    exact rfl
  try simp only [Act.put, List.setIfInBounds_toArray, List.set_cons_zero, List.set_cons_succ]
  refine wpAnyH_ready (rs := [17]) (by kernel_rfl) (by simp) (AllReadyH.cons rfl (fun K hK => ?_) AllReadyH.nil)
  go_simp
  refine (alive9_is _).mono ?_
  rintro e Wz16 ⟨rfl, hbz16⟩
  have x_c_z16 : Box Wz16 (w.heap.size) (C2) := Box.below x_c_z12 hbz16
  have x_d_z16 : Box Wz16 (w.heap.size + 1) (C2) := Box.below x_d_z12 hbz16
  have x_xa_z16 : Box Wz16 (ga) (X.map (Value.int .u8)) := Box.below x_xa_z12 hbz16
  have x_xb_z16 : Box Wz16 (gb) (X.map (Value.int .u8)) := Box.below x_xb_z12 hbz16
  have j_a_z16 := Lib.hid (IsL.below j_a_z12.out hbz16)
  have j_b_z16 := Lib.hid (IsL.below j_b_z12.out hbz16)
  have j_o_z16 := Lib.hid (IsL.below j_o_z12.out hbz16)
  have Bz16 := below_thru Bz12 hbz16
  clear x_c_z12 x_d_z12 x_xa_z12 x_xb_z12 j_a_z12 j_b_z12 j_o_z12 Bz12 hbz16
  refine hK.out _ _ (And.intro x_c_z16 (And.intro x_d_z16 (And.intro x_xa_z16 x_xb_z16))) (fun _ => ?_); clear hK K
  refine takeH 18 98 (v := ?vz18_17) rfl (by rfl) (by kernel_rfl) (by kernel_rfl) (by kernel_rfl) (fun _ _ _ h => h) (Or.inl ⟨by rfl, ?_⟩) ((And.intro x_c_z16 (And.intro x_d_z16 (And.intro x_xa_z16 x_xb_z16)))) ?_
  rotate_left
  · intro wq hSq
    go_simp
    exact rfl
  try simp only [Act.put, List.setIfInBounds_toArray, List.set_cons_zero, List.set_cons_succ]
  refine takeH 19 6 (v := ?vz19_18) rfl (by rfl) (by kernel_rfl) (by kernel_rfl) (by kernel_rfl) (fun _ _ _ h => h) (Or.inl ⟨by rfl, ?_⟩) ((And.intro x_c_z16 (And.intro x_d_z16 (And.intro x_xa_z16 x_xb_z16)))) ?_
  rotate_left
  · intro wq hSq
    go_simp
    exact rfl
  try simp only [Act.put, List.setIfInBounds_toArray, List.set_cons_zero, List.set_cons_succ]
  refine wpAnyH_done (by kernel_rfl) ?_ _
  go_wp2_with fail
  go_returns
  exact ⟨rfl, Bz16⟩

set_option maxRecDepth 100000 in
set_option maxHeartbeats 12800000 in
theorem bf9_ne (c d : Cmd) {g : List Int} (hg : g.length = 32) (hgb : Byts g) (hc : c.Ok) (hd : d.Ok) (he : c.msg ≠ d.msg) (w : World) : Calls Try.prog 7 #[.agg (ccell c).toArray, .agg (ccell d).toArray, .agg (g.map (Value.int .u8)).toArray] w fun e w' => e = .returned (.bool true) ∧ Below w.heap.size w w' := by
  have SC := Lib.hid (size_cmd c); have SD := Lib.hid (size_cmd d); have ST := Lib.hid (size_dg9 hg)
  have RC := fun W => risc_is c (q := true) (Lib.hid (by simp [hc])) W
  have RD := fun W => risc_is d (q := true) (Lib.hid (by simp [hd])) W
  obtain ⟨ti, hin, hz0, hz1, hz2⟩ := info_parts info_u8'
  have A1 := fun W => bef_own c hc W; have A2 := fun W => bef_own d hd W; have LC := fun W => lcmd_is c W
  have WF := fun W => wr_is (Frm.cmd c) (xs := c.msg ++ c.g) (q := 0) (Or.inl ⟨rfl, Frm.cmd_ok hc, (Frm.cmd_bs c).symm⟩) W
  have A3 := fun W => bef_is (c.tag g hg hgb) (xs := c.msg) (q := 0) (Or.inl ⟨rfl, hc, rfl⟩) W
  have HX := Lib.hid (Cmd.msg_len (Cmd.ok_wd hc)); have HY := Lib.hid (Cmd.msg_len (Cmd.ok_wd hd)); have HG := Lib.hid c.hg; have DG := Lib.hid (cc_drop c)
  have HZ : Hid (c.msg.map (Value.int .u8) ++ c.g.map (Value.int .u8) = (c.msg ++ c.g).map (Value.int .u8)) := Lib.hid (by rw [List.map_append]); have HW : Hid ((c.msg ++ c.g).length = 88) := Lib.hid (by rw [List.length_append, HX.out, HG.out])
  have SC2 := Lib.hid (size_cmd (c.tag g hg hgb)); have SD2 := Lib.hid (size_cmd (d.tag g hg hgb)); have NC := Lib.hid (ccell_len c); have ND := Lib.hid (ccell_len d)
  have NT : Hid ((g.map (Value.int .u8)).length = 32) := Lib.hid (by rw [List.length_map, hg]); have OT : Hid ((g.map (Value.int .u8)).toArray.all (·.oneCell') = true) := Lib.hid (oneCell_ints g)
  have WC := Lib.hid (cc_tag c g hg hgb); have WD := Lib.hid (cc_tag d g hg hgb)
  have WC2 : Hid (ccell (c.tag g hg hgb) = (ccell c).take 15 ++ g.map (Value.int .u8) ++ (ccell c).drop (15 + (g.map (Value.int .u8)).length)) := Lib.hid (by rw [NT.out]; exact WC.out); have WD2 : Hid (ccell (d.tag g hg hgb) = (ccell d).take 15 ++ g.map (Value.int .u8) ++ (ccell d).drop (15 + (g.map (Value.int .u8)).length)) := Lib.hid (by rw [NT.out]; exact WD.out); clear WC WD
  have ht := fun h => he ((Cmd.tag_iff hc hd g hg hgb).1 h)
  have EC := fun W => eqc_f ht W
  have HNE := Lib.hid he
  obtain ⟨Z, hZ⟩ : ∃ V, c.msg ++ c.g = V := ⟨_, rfl⟩; rw [hZ] at WF HZ HW
  obtain ⟨X, hX⟩ : ∃ V, c.msg = V := ⟨_, rfl⟩; rw [hX] at A1 A3 HX HZ HNE
  obtain ⟨Y, hY⟩ : ∃ V, d.msg = V := ⟨_, rfl⟩; rw [hY] at A2 HY HNE
  obtain ⟨G, hG⟩ : ∃ V, c.g = V := ⟨_, rfl⟩; rw [hG] at HG HZ DG
  obtain ⟨MF, hMF⟩ : ∃ V, mcell (Frm.cmd c) = V := ⟨_, rfl⟩; rw [hMF] at LC WF
  obtain ⟨C2, hC2⟩ : ∃ V, ccell (c.tag g hg hgb) = V := ⟨_, rfl⟩; rw [hC2] at A3 SC2 WC2 EC
  obtain ⟨D2, hD2⟩ : ∃ V, ccell (d.tag g hg hgb) = V := ⟨_, rfl⟩; rw [hD2] at SD2 WD2 EC
  obtain ⟨T, hT⟩ : ∃ V, g.map (Value.int .u8) = V := ⟨_, rfl⟩; rw [hT] at ST NT OT WC2 WD2 ⊢
  obtain ⟨C, hC⟩ : ∃ V, ccell c = V := ⟨_, rfl⟩; rw [hC] at SC RC A1 LC DG NC WC2 ⊢
  obtain ⟨D, hD⟩ : ∃ V, ccell d = V := ⟨_, rfl⟩; rw [hD] at SD RD A2 ND WD2 ⊢
  clear hT hC hD hc hd
  clear hZ hX hG hMF hC2 he ht hg hY hD2
  go_enter Try.func7, Try.ntmps7
  go_upto_region 1 with fail
  refine F_gen (F := fun W => Code.wp _ _ _ _ W) (J := fun W => Box W (w.heap.size) (C) ∧ Box W (w.heap.size + 1) (D) ∧ Box W (w.heap.size + 2) (T) ∧ Below w.heap.size w W) (And.intro (Box.alloc (Box.alloc (Box.newc rfl rfl) _) _) (And.intro (Box.alloc (Box.newc rfl (by simp)) _) (And.intro (Box.newc rfl (by simp)) (by go_grown)))) ?_
  intro w0 ⟨e_c, e_d, e_t, hB0⟩
  have hs0 := hB0.size
  have x_c0 := e_c; clear e_c
  have x_d0 := e_d; clear e_d
  have x_t0 := e_t; clear e_t
  go_wp2_with (refine wpList_load_box9 rfl _ _ rfl x_c0 rfl Try.underlying31 rfl SC.out ?_)
  refine (RC _).mono ?_
  rintro e w1 ⟨rfl, hb⟩
  clear RC
  have hB1 : Below w.heap.size w w1 := below_thru hB0 hb
  have hs1 := hB1.size
  have x_c1 : Box w1 (w.heap.size) (C) := Box.below x_c0 hb
  have x_d1 : Box w1 (w.heap.size + 1) (D) := Box.below x_d0 hb
  have x_t1 : Box w1 (w.heap.size + 2) (T) := Box.below x_t0 hb
  clear hB0 hs0 x_c0 x_d0 x_t0
  clear hb
  go_wp2_with (refine wpList_load_box9 rfl _ _ rfl x_d1 rfl Try.underlying31 rfl SD.out ?_)
  refine (RD _).mono ?_
  rintro e w2 ⟨rfl, hb⟩
  clear RD
  have hB2 : Below w.heap.size w w2 := below_thru hB1 hb
  have hs2 := hB2.size
  have x_c2 : Box w2 (w.heap.size) (C) := Box.below x_c1 hb
  have x_d2 : Box w2 (w.heap.size + 1) (D) := Box.below x_d1 hb
  have x_t2 : Box w2 (w.heap.size + 2) (T) := Box.below x_t1 hb
  clear hB1 hs1 x_c1 x_d1 x_t1
  clear hb
  have zt := (x_t2).lt
  go_wp2_with (refine wpList_load_box9 rfl _ _ rfl x_c2 rfl Try.underlying31 rfl SC.out ?_)
  refine (A1 _).mono ?_
  rintro e w3 ⟨va, rfl, hoa, hb⟩
  clear A1
  have hB3 : Below w.heap.size w w3 := below_thru hB2 hb
  have hs3 := hB3.size
  have x_c3 : Box w3 (w.heap.size) (C) := Box.below x_c2 hb
  have x_d3 : Box w3 (w.heap.size + 1) (D) := Box.below x_d2 hb
  have x_t3 : Box w3 (w.heap.size + 2) (T) := Box.below x_t2 hb
  clear hB2 hs2 x_c2 x_d2 x_t2
  clear hb
  obtain ⟨ga, ca, rfl, hga, lo_a, hi_a, hbx⟩ := own_box hoa (by rw [HX.out]; decide)
  rw [HX.out] at lo_a ⊢
  have low_a : w.heap.size + 2 < ga := by omega
  clear zt hga hoa
  have x_xa3 : Box w3 (ga) (X.map (Value.int .u8)) := hbx
  clear hbx
  have zt := (x_t3).lt
  go_wp2_with (refine wpList_load_box9 rfl _ _ rfl x_d3 rfl Try.underlying31 rfl SD.out ?_)
  refine (A2 _).mono ?_
  rintro e w4 ⟨va, rfl, hoa, hb⟩
  clear A2
  have hB4 : Below w.heap.size w w4 := below_thru hB3 hb
  have hs4 := hB4.size
  have x_c4 : Box w4 (w.heap.size) (C) := Box.below x_c3 hb
  have x_d4 : Box w4 (w.heap.size + 1) (D) := Box.below x_d3 hb
  have x_t4 : Box w4 (w.heap.size + 2) (T) := Box.below x_t3 hb
  have x_xa4 : Box w4 (ga) (X.map (Value.int .u8)) := Box.below x_xa3 hb
  clear hB3 hs3 x_c3 x_d3 x_t3 x_xa3
  clear hb
  obtain ⟨gb, cb, rfl, hga, lo_b, hi_b, hbx⟩ := own_box hoa (by rw [HY.out]; decide)
  rw [HY.out] at lo_b ⊢
  have low_b : w.heap.size + 2 < gb := by omega
  clear zt hga hoa
  have x_xb4 : Box w4 (gb) (Y.map (Value.int .u8)) := hbx
  clear hbx
  have J_a4 : Hid (IsL w4 .u8 (.slice (some ⟨ga, 0, none⟩) 56 ca) X) := Lib.hid (IsL.range 56 ca HX.out x_xa4.range (by omega) (by omega))
  have J_b4 : Hid (IsL w4 .u8 (.slice (some ⟨gb, 0, none⟩) 56 cb) Y) := Lib.hid (IsL.range 56 cb HY.out x_xb4.range (by omega) (by omega))
  go_wp2_with (refine wpList_load_box9 rfl _ _ rfl x_c4 rfl Try.underlying31 rfl SC.out ?_)
  refine (LC _).mono ?_
  rintro e w5 ⟨rfl, hb⟩
  clear LC
  have hB5 : Below w.heap.size w w5 := below_thru hB4 hb
  have hs5 := hB5.size
  have x_c5 : Box w5 (w.heap.size) (C) := Box.below x_c4 hb
  have x_d5 : Box w5 (w.heap.size + 1) (D) := Box.below x_d4 hb
  have x_t5 : Box w5 (w.heap.size + 2) (T) := Box.below x_t4 hb
  have x_xa5 : Box w5 (ga) (X.map (Value.int .u8)) := Box.below x_xa4 hb
  have x_xb5 : Box w5 (gb) (Y.map (Value.int .u8)) := Box.below x_xb4 hb
  have J_a5 : Hid (IsL w5 .u8 (.slice (some ⟨ga, 0, none⟩) 56 ca) X) := Lib.hid (IsL.below J_a4.out hb)
  have J_b5 : Hid (IsL w5 .u8 (.slice (some ⟨gb, 0, none⟩) 56 cb) Y) := Lib.hid (IsL.below J_b4.out hb)
  clear hB4 hs4 x_c4 x_d4 x_t4 x_xa4 x_xb4 J_a4 J_b4
  clear hb
  go_wp2_with fail
  refine (WF _).mono ?_
  rintro e w6 ⟨vz, rfl, hoz, hb⟩
  clear WF
  have hB6 : Below w.heap.size w w6 := below_thru hB5 hb
  have hs6 := hB6.size
  have x_c6 : Box w6 (w.heap.size) (C) := Box.below x_c5 hb
  have x_d6 : Box w6 (w.heap.size + 1) (D) := Box.below x_d5 hb
  have x_t6 : Box w6 (w.heap.size + 2) (T) := Box.below x_t5 hb
  have x_xa6 : Box w6 (ga) (X.map (Value.int .u8)) := Box.below x_xa5 hb
  have x_xb6 : Box w6 (gb) (Y.map (Value.int .u8)) := Box.below x_xb5 hb
  have J_a6 : Hid (IsL w6 .u8 (.slice (some ⟨ga, 0, none⟩) 56 ca) X) := Lib.hid (IsL.below J_a5.out hb)
  have J_b6 : Hid (IsL w6 .u8 (.slice (some ⟨gb, 0, none⟩) 56 cb) Y) := Lib.hid (IsL.below J_b5.out hb)
  clear hB5 hs5 x_c5 x_d5 x_t5 x_xa5 x_xb5 J_a5 J_b5
  clear hb
  have J_all6 : Hid (IsL w6 .u8 (vz) Z) := Lib.hid (IsL.own hoz rfl)
  clear hoz
  go_upto_region 6 with fail
  refine wp_region_held_drew (S := fun W => Box W (w.heap.size) (C) ∧ Box W (w.heap.size + 1) (D) ∧ Box W (w.heap.size + 2) (T) ∧ Box W (ga) (X.map (Value.int .u8)) ∧ Box W (gb) (Y.map (Value.int .u8))) (by kernel_rfl) (And.intro (x_c6).drew (And.intro (x_d6).drew (And.intro (x_t6).drew (And.intro (x_xa6).drew (x_xb6).drew)))) (fun _ => ?_)
  refine F_drew (F := fun W => wpAnyH _ _ _ _ _ _ _ _ W) ?_
  intro Wa0 hba0
  clear hs6
  have x_c_a0 : Box Wa0 (w.heap.size) (C) := Box.below x_c6 hba0
  have x_d_a0 : Box Wa0 (w.heap.size + 1) (D) := Box.below x_d6 hba0
  have x_t_a0 : Box Wa0 (w.heap.size + 2) (T) := Box.below x_t6 hba0
  have x_xa_a0 : Box Wa0 (ga) (X.map (Value.int .u8)) := Box.below x_xa6 hba0
  have x_xb_a0 : Box Wa0 (gb) (Y.map (Value.int .u8)) := Box.below x_xb6 hba0
  have j_a_a0 := Lib.hid (IsL.below J_a6.out hba0)
  have j_b_a0 := Lib.hid (IsL.below J_b6.out hba0)
  have j_all_a0 := Lib.hid (IsL.below J_all6.out hba0)
  have Ba0 := below_thru hB6 hba0
  clear x_c6 x_d6 x_t6 x_xa6 x_xb6 J_a6 J_b6 J_all6 hB6 hba0
  refine takeH 0 40 (v := ?va0_1) rfl (by rfl) (by kernel_rfl) (by kernel_rfl) (by kernel_rfl) (fun _ _ _ h => h) (Or.inl ⟨by rfl, ?_⟩) ((And.intro x_c_a0 (And.intro x_d_a0 (And.intro x_t_a0 (And.intro x_xa_a0 x_xb_a0))))) ?_
  rotate_left
  · intro wq hSq
    go_simp
    exact rfl
  try simp only [Act.put, List.setIfInBounds_toArray, List.set_cons_zero, List.set_cons_succ]
  refine takeH 1 41 (v := ?va1_2) rfl (by rfl) (by kernel_rfl) (by kernel_rfl) (by kernel_rfl) (fun _ _ _ h => h) (Or.inl ⟨by rfl, ?_⟩) ((And.intro x_c_a0 (And.intro x_d_a0 (And.intro x_t_a0 (And.intro x_xa_a0 x_xb_a0))))) ?_
  rotate_left
  · intro wq hSq
    go_simp
    exact rfl
  try simp only [Act.put, List.setIfInBounds_toArray, List.set_cons_zero, List.set_cons_succ]
  refine takeH 2 42 (v := ?va2_3) rfl (by rfl) (by kernel_rfl) (by kernel_rfl) (by kernel_rfl) (fun _ _ _ h => h) (Or.inl ⟨by rfl, ?_⟩) ((And.intro x_c_a0 (And.intro x_d_a0 (And.intro x_t_a0 (And.intro x_xa_a0 x_xb_a0))))) ?_
  rotate_left
  · intro wq hSq
    go_simp
    exact rfl
  try simp only [Act.put, List.setIfInBounds_toArray, List.set_cons_zero, List.set_cons_succ]
  refine takeH 3 43 (v := ?va3_4) rfl (by rfl) (by kernel_rfl) (by kernel_rfl) (by kernel_rfl) (fun _ _ _ h => h) (Or.inl ⟨by rfl, ?_⟩) ((And.intro x_c_a0 (And.intro x_d_a0 (And.intro x_t_a0 (And.intro x_xa_a0 x_xb_a0))))) ?_
  rotate_left
  · intro wq hSq
    go_simp
    exact rfl
  try simp only [Act.put, List.setIfInBounds_toArray, List.set_cons_zero, List.set_cons_succ]
  refine takeH 4 44 (v := ?va4_5) rfl (by rfl) (by kernel_rfl) (by kernel_rfl) (by kernel_rfl) (fun _ _ _ h => h) (Or.inl ⟨by rfl, ?_⟩) ((And.intro x_c_a0 (And.intro x_d_a0 (And.intro x_t_a0 (And.intro x_xa_a0 x_xb_a0))))) ?_
  rotate_left
  · intro wq hSq
    go_simp
    exact rfl
  try simp only [Act.put, List.setIfInBounds_toArray, List.set_cons_zero, List.set_cons_succ]
  refine takeH 5 45 (v := ?va5_6) rfl (by rfl) (by kernel_rfl) (by kernel_rfl) (by kernel_rfl) (fun _ _ _ h => h) (Or.inl ⟨by rfl, ?_⟩) ((And.intro x_c_a0 (And.intro x_d_a0 (And.intro x_t_a0 (And.intro x_xa_a0 x_xb_a0))))) ?_
  rotate_left
  · intro wq hSq
    go_simp
    exact rfl
  try simp only [Act.put, List.setIfInBounds_toArray, List.set_cons_zero, List.set_cons_succ]
  refine takeH 6 46 (v := ?va6_7) rfl (by rfl) (by kernel_rfl) (by kernel_rfl) (by kernel_rfl) (fun _ _ _ h => h) (Or.inl ⟨by rfl, ?_⟩) ((And.intro x_c_a0 (And.intro x_d_a0 (And.intro x_t_a0 (And.intro x_xa_a0 x_xb_a0))))) ?_
  rotate_left
  · intro wq hSq
    go_simp
    exact rfl
  try simp only [Act.put, List.setIfInBounds_toArray, List.set_cons_zero, List.set_cons_succ]
  refine takeH 7 47 (v := ?va7_8) rfl (by rfl) (by kernel_rfl) (by kernel_rfl) (by kernel_rfl) (fun _ _ _ h => h) (Or.inl ⟨by rfl, ?_⟩) ((And.intro x_c_a0 (And.intro x_d_a0 (And.intro x_t_a0 (And.intro x_xa_a0 x_xb_a0))))) ?_
  rotate_left
  · intro wq hSq
    go_simp
    exact rfl
  try simp only [Act.put, List.setIfInBounds_toArray, List.set_cons_zero, List.set_cons_succ]
  refine takeH 8 48 (v := ?va8_9) rfl (by rfl) (by kernel_rfl) (by kernel_rfl) (by kernel_rfl) (fun _ _ _ h => h) (Or.inl ⟨by rfl, ?_⟩) ((And.intro x_c_a0 (And.intro x_d_a0 (And.intro x_t_a0 (And.intro x_xa_a0 x_xb_a0))))) ?_
  rotate_left
  · intro wq hSq
    go_simp
    exact rfl
  try simp only [Act.put, List.setIfInBounds_toArray, List.set_cons_zero, List.set_cons_succ]
  refine takeH 9 49 (v := ?va9_10) rfl (by rfl) (by kernel_rfl) (by kernel_rfl) (by kernel_rfl) (fun _ _ _ h => h) (Or.inl ⟨by rfl, ?_⟩) ((And.intro x_c_a0 (And.intro x_d_a0 (And.intro x_t_a0 (And.intro x_xa_a0 x_xb_a0))))) ?_
  rotate_left
  · intro wq hSq
    go_simp
    exact rfl
  try simp only [Act.put, List.setIfInBounds_toArray, List.set_cons_zero, List.set_cons_succ]
  refine takeH 10 50 (v := ?va10_11) rfl (by rfl) (by kernel_rfl) (by kernel_rfl) (by kernel_rfl) (fun _ _ _ h => h) (Or.inl ⟨by rfl, ?_⟩) ((And.intro x_c_a0 (And.intro x_d_a0 (And.intro x_t_a0 (And.intro x_xa_a0 x_xb_a0))))) ?_
  rotate_left
  · intro wq hSq
    go_simp
    exact rfl
  try simp only [Act.put, List.setIfInBounds_toArray, List.set_cons_zero, List.set_cons_succ]
  refine takeH 11 51 (v := ?va11_12) rfl (by rfl) (by kernel_rfl) (by kernel_rfl) (by kernel_rfl) (fun _ _ _ h => h) (Or.inl ⟨by rfl, ?_⟩) ((And.intro x_c_a0 (And.intro x_d_a0 (And.intro x_t_a0 (And.intro x_xa_a0 x_xb_a0))))) ?_
  rotate_left
  · intro wq hSq
    go_simp
    exact rfl
  try simp only [Act.put, List.setIfInBounds_toArray, List.set_cons_zero, List.set_cons_succ]
  refine takeH 12 52 (v := ?va12_13) rfl (by rfl) (by kernel_rfl) (by kernel_rfl) (by kernel_rfl) (fun _ _ _ h => h) (Or.inl ⟨by rfl, ?_⟩) ((And.intro x_c_a0 (And.intro x_d_a0 (And.intro x_t_a0 (And.intro x_xa_a0 x_xb_a0))))) ?_
  rotate_left
  · intro wq hSq
    go_simp
    exact rfl
  try simp only [Act.put, List.setIfInBounds_toArray, List.set_cons_zero, List.set_cons_succ]
  refine takeH 13 53 (v := ?va13_14) rfl (by rfl) (by kernel_rfl) (by kernel_rfl) (by kernel_rfl) (fun _ _ _ h => h) (Or.inl ⟨by rfl, ?_⟩) ((And.intro x_c_a0 (And.intro x_d_a0 (And.intro x_t_a0 (And.intro x_xa_a0 x_xb_a0))))) ?_
  rotate_left
  · intro wq hSq
    go_simp
    exact rfl
  try simp only [Act.put, List.setIfInBounds_toArray, List.set_cons_zero, List.set_cons_succ]
  refine takeH 14 54 (v := ?va14_15) rfl (by rfl) (by kernel_rfl) (by kernel_rfl) (by kernel_rfl) (fun _ _ _ h => h) (Or.inl ⟨by rfl, ?_⟩) ((And.intro x_c_a0 (And.intro x_d_a0 (And.intro x_t_a0 (And.intro x_xa_a0 x_xb_a0))))) ?_
  rotate_left
  · intro wq hSq
    go_simp
    exact rfl
  try simp only [Act.put, List.setIfInBounds_toArray, List.set_cons_zero, List.set_cons_succ]
  refine takeH 15 55 (v := ?va15_16) rfl (by rfl) (by kernel_rfl) (by kernel_rfl) (by kernel_rfl) (fun _ _ _ h => h) (Or.inl ⟨by rfl, ?_⟩) ((And.intro x_c_a0 (And.intro x_d_a0 (And.intro x_t_a0 (And.intro x_xa_a0 x_xb_a0))))) ?_
  rotate_left
  · intro wq hSq
    go_simp
    exact rfl
  try simp only [Act.put, List.setIfInBounds_toArray, List.set_cons_zero, List.set_cons_succ]
  refine takeH 16 56 (v := ?va16_17) rfl (by rfl) (by kernel_rfl) (by kernel_rfl) (by kernel_rfl) (fun _ _ _ h => h) (Or.inl ⟨by rfl, ?_⟩) ((And.intro x_c_a0 (And.intro x_d_a0 (And.intro x_t_a0 (And.intro x_xa_a0 x_xb_a0))))) ?_
  rotate_left
  · intro wq hSq
    go_simp
    exact rfl
  try simp only [Act.put, List.setIfInBounds_toArray, List.set_cons_zero, List.set_cons_succ]
  refine takeH 17 57 (v := ?va17_18) rfl (by rfl) (by kernel_rfl) (by kernel_rfl) (by kernel_rfl) (fun _ _ _ h => h) (Or.inl ⟨by rfl, ?_⟩) ((And.intro x_c_a0 (And.intro x_d_a0 (And.intro x_t_a0 (And.intro x_xa_a0 x_xb_a0))))) ?_
  rotate_left
  · intro wq hSq
    go_simp
    exact rfl
  try simp only [Act.put, List.setIfInBounds_toArray, List.set_cons_zero, List.set_cons_succ]
  refine takeH 18 58 (v := ?va18_19) rfl (by rfl) (by kernel_rfl) (by kernel_rfl) (by kernel_rfl) (fun _ _ _ h => h) (Or.inl ⟨by rfl, ?_⟩) ((And.intro x_c_a0 (And.intro x_d_a0 (And.intro x_t_a0 (And.intro x_xa_a0 x_xb_a0))))) ?_
  rotate_left
  · intro wq hSq
    go_simp
    exact rfl
  try simp only [Act.put, List.setIfInBounds_toArray, List.set_cons_zero, List.set_cons_succ]
  refine takeH 19 59 (v := ?va19_20) rfl (by rfl) (by kernel_rfl) (by kernel_rfl) (by kernel_rfl) (fun _ _ _ h => h) (Or.inl ⟨by rfl, ?_⟩) ((And.intro x_c_a0 (And.intro x_d_a0 (And.intro x_t_a0 (And.intro x_xa_a0 x_xb_a0))))) ?_
  rotate_left
  · intro wq hSq
    go_simp
    exact rfl
  try simp only [Act.put, List.setIfInBounds_toArray, List.set_cons_zero, List.set_cons_succ]
  refine takeH 20 60 (v := ?va20_21) rfl (by rfl) (by kernel_rfl) (by kernel_rfl) (by kernel_rfl) (fun _ _ _ h => h) (Or.inl ⟨by rfl, ?_⟩) ((And.intro x_c_a0 (And.intro x_d_a0 (And.intro x_t_a0 (And.intro x_xa_a0 x_xb_a0))))) ?_
  rotate_left
  · intro wq hSq
    go_simp
    exact rfl
  try simp only [Act.put, List.setIfInBounds_toArray, List.set_cons_zero, List.set_cons_succ]
  refine takeH 21 61 (v := ?va21_22) rfl (by rfl) (by kernel_rfl) (by kernel_rfl) (by kernel_rfl) (fun _ _ _ h => h) (Or.inl ⟨by rfl, ?_⟩) ((And.intro x_c_a0 (And.intro x_d_a0 (And.intro x_t_a0 (And.intro x_xa_a0 x_xb_a0))))) ?_
  rotate_left
  · intro wq hSq
    go_simp
    exact rfl
  try simp only [Act.put, List.setIfInBounds_toArray, List.set_cons_zero, List.set_cons_succ]
  refine takeH 23 63 (v := ?va23_23) rfl (by rfl) (by kernel_rfl) (by kernel_rfl) (by kernel_rfl) (fun _ _ _ h => h) (Or.inl ⟨by rfl, ?_⟩) ((And.intro x_c_a0 (And.intro x_d_a0 (And.intro x_t_a0 (And.intro x_xa_a0 x_xb_a0))))) ?_
  rotate_left
  · intro wq hSq
    go_simp
    exact rfl
  try simp only [Act.put, List.setIfInBounds_toArray, List.set_cons_zero, List.set_cons_succ]
  refine takeH 25 65 (v := ?va25_24) rfl (by rfl) (by kernel_rfl) (by kernel_rfl) (by kernel_rfl) (fun _ _ _ h => h) (Or.inl ⟨by rfl, ?_⟩) ((And.intro x_c_a0 (And.intro x_d_a0 (And.intro x_t_a0 (And.intro x_xa_a0 x_xb_a0))))) ?_
  rotate_left
  · intro wq hSq
    go_simp
    exact rfl
  try simp only [Act.put, List.setIfInBounds_toArray, List.set_cons_zero, List.set_cons_succ]
  refine takeH 26 66 (v := ?va26_25) rfl (by rfl) (by kernel_rfl) (by kernel_rfl) (by kernel_rfl) (fun _ _ _ h => h) (Or.inl ⟨by rfl, ?_⟩) ((And.intro x_c_a0 (And.intro x_d_a0 (And.intro x_t_a0 (And.intro x_xa_a0 x_xb_a0))))) ?_
  rotate_left
  · intro wq hSq
    go_simp
    exact rfl
  try simp only [Act.put, List.setIfInBounds_toArray, List.set_cons_zero, List.set_cons_succ]
  refine wpAnyH_ready (rs := [22]) (by kernel_rfl) (by simp) (AllReadyH.cons rfl (fun K hK => ?_) AllReadyH.nil)
  have kk727_x_c_a0 := x_c_a0
  have kk727_x_d_a0 := x_d_a0
  have kk727_x_t_a0 := x_t_a0
  have kk727_x_xa_a0 := x_xa_a0
  have kk727_x_xb_a0 := x_xb_a0
  have kk727_j_a_a0 := j_a_a0
  have kk727_j_b_a0 := j_b_a0
  have kk727_j_all_a0 := j_all_a0
  have kk727_Ba0 := Ba0
  go_simp
  refine hK.out _ _ ((And.intro (Box.alloc x_c_a0 _) (And.intro (Box.alloc x_d_a0 _) (And.intro (Box.alloc x_t_a0 _) (And.intro (Box.alloc x_xa_a0 _) (Box.alloc x_xb_a0 _)))))) (fun _ => ?_); clear hK K
  refine F_own9 (F := fun W => wpAnyH _ _ _ _ _ _ _ _ W) (base := Wa0.heap.size) (Nat.le_refl _) ?_
  intro Wa26 oe hL26
  have hLk26 := hL26
  have x_c_a26 : Box Wa26 (w.heap.size) (C) := Box.below x_c_a0 hL26
  have x_d_a26 : Box Wa26 (w.heap.size + 1) (D) := Box.below x_d_a0 hL26
  have x_t_a26 : Box Wa26 (w.heap.size + 2) (T) := Box.below x_t_a0 hL26
  have x_xa_a26 : Box Wa26 (ga) (X.map (Value.int .u8)) := Box.below x_xa_a0 hL26
  have x_xb_a26 : Box Wa26 (gb) (Y.map (Value.int .u8)) := Box.below x_xb_a0 hL26
  have j_a_a26 := Lib.hid (IsL.below j_a_a0.out hL26)
  have j_b_a26 := Lib.hid (IsL.below j_b_a0.out hL26)
  have j_all_a26 := Lib.hid (IsL.below j_all_a0.out hL26)
  have Ba26 := below_thru Ba0 hL26
  clear x_c_a0 x_d_a0 x_t_a0 x_xa_a0 x_xb_a0 j_a_a0 j_b_a0 j_all_a0 Ba0 
  clear hL26
  refine wpAnyH_ready (rs := [24]) (by kernel_rfl) (by simp) (AllReadyH.cons rfl (fun K hK => ?_) AllReadyH.nil)
  refine step_append_ints9 64 rfl (by rfl) _ _ 33 rfl Wa0.heap.size 5 ti (.int .u8 0) 1 .u8 Try.underlying33 hin hz0 hz1 hz2 rfl _ 0 _ rfl oe _ X rfl j_a_a26.out (by rw [HX.out]; decide) (by rw [HX.out]; decide) (Below.size hLk26) ?_
  intro va28 Wa28 oz28 hbm28
  have hL28 := Below.trans hLk26 hbm28
  have hLk28 := hL28
  rw [HX.out, List.map_nil, List.nil_append] at oz28
  have kk729_kk727_x_c_a0 := kk727_x_c_a0
  have kk729_kk727_x_d_a0 := kk727_x_d_a0
  have kk729_kk727_x_t_a0 := kk727_x_t_a0
  have kk729_kk727_x_xa_a0 := kk727_x_xa_a0
  have kk729_kk727_x_xb_a0 := kk727_x_xb_a0
  have kk729_kk727_j_a_a0 := kk727_j_a_a0
  have kk729_kk727_j_b_a0 := kk727_j_b_a0
  have kk729_kk727_j_all_a0 := kk727_j_all_a0
  have kk729_kk727_Ba0 := kk727_Ba0
  have x_c_a28 : Box Wa28 (w.heap.size) (C) := Box.below kk727_x_c_a0 hL28
  have x_d_a28 : Box Wa28 (w.heap.size + 1) (D) := Box.below kk727_x_d_a0 hL28
  have x_t_a28 : Box Wa28 (w.heap.size + 2) (T) := Box.below kk727_x_t_a0 hL28
  have x_xa_a28 : Box Wa28 (ga) (X.map (Value.int .u8)) := Box.below kk727_x_xa_a0 hL28
  have x_xb_a28 : Box Wa28 (gb) (Y.map (Value.int .u8)) := Box.below kk727_x_xb_a0 hL28
  have j_a_a28 := Lib.hid (IsL.below kk727_j_a_a0.out hL28)
  have j_b_a28 := Lib.hid (IsL.below kk727_j_b_a0.out hL28)
  have j_all_a28 := Lib.hid (IsL.below kk727_j_all_a0.out hL28)
  have Ba28 := below_thru kk727_Ba0 hL28
  clear kk727_x_c_a0 kk727_x_d_a0 kk727_x_t_a0 kk727_x_xa_a0 kk727_x_xb_a0 kk727_j_a_a0 kk727_j_b_a0 kk727_j_all_a0 kk727_Ba0 
  clear hL28 hbm28 oe hLk26 x_c_a26 x_d_a26 x_t_a26 x_xa_a26 x_xb_a26 Ba26 j_a_a26 j_b_a26 j_all_a26
  refine hK.out _ _ (And.intro x_c_a28 (And.intro x_d_a28 (And.intro x_t_a28 (And.intro x_xa_a28 x_xb_a28)))) (fun _ => ?_); clear hK K
  refine wpAnyH_ready (rs := [27]) (by kernel_rfl) (by simp) (AllReadyH.cons rfl (fun K hK => ?_) AllReadyH.nil)
  have j_g_a931 : Hid (IsL Wa28 .u8 (.slice (some ⟨w.heap.size, 15, none⟩) 32 32) (G)) := Lib.hid (IsL.range 32 32 HG.out (Box.rangeMid x_c_a28 15 (G.map (Value.int .u8)) [] DG.out) (by omega) (by omega))
  refine step_append_ints9 67 rfl (by rfl) _ _ 33 rfl Wa0.heap.size 5 ti (.int .u8 0) 1 .u8 Try.underlying33 hin hz0 hz1 hz2 rfl _ (0 + 56) _ rfl oz28 _ G rfl j_g_a931.out (by rw [HG.out]; decide) (by rw [HG.out]; decide) (Below.size hLk28) ?_
  intro va30 Wa30 oz30 hbm30
  have hL30 := Below.trans hLk28 hbm30
  have hLk30 := hL30
  rw [HG.out, HZ.out] at oz30
  have kk732_kk729_kk727_x_c_a0 := kk729_kk727_x_c_a0
  have kk732_kk729_kk727_x_d_a0 := kk729_kk727_x_d_a0
  have kk732_kk729_kk727_x_t_a0 := kk729_kk727_x_t_a0
  have kk732_kk729_kk727_x_xa_a0 := kk729_kk727_x_xa_a0
  have kk732_kk729_kk727_x_xb_a0 := kk729_kk727_x_xb_a0
  have kk732_kk729_kk727_j_a_a0 := kk729_kk727_j_a_a0
  have kk732_kk729_kk727_j_b_a0 := kk729_kk727_j_b_a0
  have kk732_kk729_kk727_j_all_a0 := kk729_kk727_j_all_a0
  have kk732_kk729_kk727_Ba0 := kk729_kk727_Ba0
  have x_c_a30 : Box Wa30 (w.heap.size) (C) := Box.below kk729_kk727_x_c_a0 hL30
  have x_d_a30 : Box Wa30 (w.heap.size + 1) (D) := Box.below kk729_kk727_x_d_a0 hL30
  have x_t_a30 : Box Wa30 (w.heap.size + 2) (T) := Box.below kk729_kk727_x_t_a0 hL30
  have x_xa_a30 : Box Wa30 (ga) (X.map (Value.int .u8)) := Box.below kk729_kk727_x_xa_a0 hL30
  have x_xb_a30 : Box Wa30 (gb) (Y.map (Value.int .u8)) := Box.below kk729_kk727_x_xb_a0 hL30
  have j_a_a30 := Lib.hid (IsL.below kk729_kk727_j_a_a0.out hL30)
  have j_b_a30 := Lib.hid (IsL.below kk729_kk727_j_b_a0.out hL30)
  have j_all_a30 := Lib.hid (IsL.below kk729_kk727_j_all_a0.out hL30)
  have Ba30 := below_thru kk729_kk727_Ba0 hL30
  clear kk729_kk727_x_c_a0 kk729_kk727_x_d_a0 kk729_kk727_x_t_a0 kk729_kk727_x_xa_a0 kk729_kk727_x_xb_a0 kk729_kk727_j_a_a0 kk729_kk727_j_b_a0 kk729_kk727_j_all_a0 kk729_kk727_Ba0 
  clear hL30 hbm30 oz28 hLk28 x_c_a28 x_d_a28 x_t_a28 x_xa_a28 x_xb_a28 Ba28 j_a_a28 j_b_a28 j_all_a28 j_g_a931
  have j_z_a933 : Hid (IsL Wa30 .u8 (va30) (Z)) := Lib.hid (IsL.own oz30 (by rw [HW.out]))
  clear oz30 hLk30 kk732_kk729_kk727_x_c_a0 kk732_kk729_kk727_x_d_a0 kk732_kk729_kk727_x_t_a0 kk732_kk729_kk727_x_xa_a0 kk732_kk729_kk727_x_xb_a0 kk732_kk729_kk727_Ba0 kk732_kk729_kk727_j_a_a0 kk732_kk729_kk727_j_b_a0 kk732_kk729_kk727_j_all_a0
  refine hK.out _ _ (And.intro x_c_a30 (And.intro x_d_a30 (And.intro x_t_a30 (And.intro x_xa_a30 x_xb_a30)))) (fun _ => ?_); clear hK K
  refine wpAnyH_ready (rs := [28]) (by kernel_rfl) (by simp) (AllReadyH.cons rfl (fun K hK => ?_) AllReadyH.nil)
  go_simp
  refine (sameb_tt _ j_all_a30.out j_z_a933.out).mono ?_
  rintro e Wa34 ⟨rfl, hba34⟩
  have x_c_a34 : Box Wa34 (w.heap.size) (C) := Box.below x_c_a30 hba34
  have x_d_a34 : Box Wa34 (w.heap.size + 1) (D) := Box.below x_d_a30 hba34
  have x_t_a34 : Box Wa34 (w.heap.size + 2) (T) := Box.below x_t_a30 hba34
  have x_xa_a34 : Box Wa34 (ga) (X.map (Value.int .u8)) := Box.below x_xa_a30 hba34
  have x_xb_a34 : Box Wa34 (gb) (Y.map (Value.int .u8)) := Box.below x_xb_a30 hba34
  have j_a_a34 := Lib.hid (IsL.below j_a_a30.out hba34)
  have j_b_a34 := Lib.hid (IsL.below j_b_a30.out hba34)
  have j_all_a34 := Lib.hid (IsL.below j_all_a30.out hba34)
  have j_z_a34 := Lib.hid (IsL.below j_z_a933.out hba34)
  have Ba34 := below_thru Ba30 hba34
  clear x_c_a30 x_d_a30 x_t_a30 x_xa_a30 x_xb_a30 j_a_a30 j_b_a30 j_all_a30 j_z_a933 Ba30 hba34
  refine hK.out _ _ (And.intro x_c_a34 (And.intro x_d_a34 (And.intro x_t_a34 (And.intro x_xa_a34 x_xb_a34)))) (fun _ => ?_); clear hK K
  refine takeH 29 69 (v := ?va29_35) rfl (by rfl) (by kernel_rfl) (by kernel_rfl) (by kernel_rfl) (fun _ _ _ h => h) (Or.inl ⟨by rfl, ?_⟩) ((And.intro x_c_a34 (And.intro x_d_a34 (And.intro x_t_a34 (And.intro x_xa_a34 x_xb_a34))))) ?_
  rotate_left
  · intro wq hSq
    go_simp
    exact rfl
  try simp only [Act.put, List.setIfInBounds_toArray, List.set_cons_zero, List.set_cons_succ]
  refine takeH 30 70 (v := ?va30_36) rfl (by rfl) (by kernel_rfl) (by kernel_rfl) (by kernel_rfl) (fun _ _ _ h => h) (Or.inl ⟨by rfl, ?_⟩) ((And.intro x_c_a34 (And.intro x_d_a34 (And.intro x_t_a34 (And.intro x_xa_a34 x_xb_a34))))) ?_
  rotate_left
  · intro wq hSq
    go_simp
    exact rfl
  try simp only [Act.put, List.setIfInBounds_toArray, List.set_cons_zero, List.set_cons_succ]
  refine wpAnyH_done (by kernel_rfl) ?_ _
  have hB7 := Ba34; have hs7 := hB7.size
  have x_c7 := x_c_a34
  have x_d7 := x_d_a34
  have x_t7 := x_t_a34
  have x_xa7 := x_xa_a34
  have x_xb7 := x_xb_a34
  have J_a7 := j_a_a34
  have J_b7 := j_b_a34
  have J_all7 := j_all_a34
  have J_z7 := j_z_a34
  clear Ba34 x_c_a34 x_d_a34 x_t_a34 x_xa_a34 x_xb_a34 j_a_a34 j_b_a34 j_all_a34 j_z_a34
  clear J_z7 J_all7
  go_upto_region 8 with fail
  refine wp_region_held_drew (S := fun W => Box W (w.heap.size + 2) (T) ∧ Box W (ga) (X.map (Value.int .u8)) ∧ Box W (gb) (Y.map (Value.int .u8))) (by kernel_rfl) (And.intro (x_t7).drew (And.intro (x_xa7).drew (x_xb7).drew)) (fun _ => ?_)
  refine F_drew (F := fun W => wpAnyH _ _ _ _ _ _ _ _ W) ?_
  intro Wb0 hbb0
  clear hs7
  have x_t_b0 : Box Wb0 (w.heap.size + 2) (T) := Box.below x_t7 hbb0
  have x_xa_b0 : Box Wb0 (ga) (X.map (Value.int .u8)) := Box.below x_xa7 hbb0
  have x_xb_b0 : Box Wb0 (gb) (Y.map (Value.int .u8)) := Box.below x_xb7 hbb0
  have z_c_b0 : Box Wb0 (w.heap.size) (C) := Box.below x_c7 hbb0
  have z_d_b0 : Box Wb0 (w.heap.size + 1) (D) := Box.below x_d7 hbb0
  have j_a_b0 := Lib.hid (IsL.below J_a7.out hbb0)
  have j_b_b0 := Lib.hid (IsL.below J_b7.out hbb0)
  have Bb0 := below_thru hB7 hbb0
  clear x_t7 x_xa7 x_xb7 x_c7 x_d7 J_a7 J_b7 hB7 hbb0
  refine takeH 0 71 (v := .agg (T).toArray) rfl (by rfl) (by kernel_rfl) (by kernel_rfl) (by kernel_rfl) (fun _ _ _ h => h) (yieldsIf_load_mid (by rfl) _ _ rfl _ _ rfl (T) _ (fun wq hq => Box.range (hq.1)) Try.underlying29 rfl ST.out) ((And.intro x_t_b0 (And.intro x_xa_b0 x_xb_b0))) ?_
  try simp only [Act.put, List.setIfInBounds_toArray, List.set_cons_zero, List.set_cons_succ]
  refine takeH 2 73 (v := ?vb2_1) rfl (by rfl) (by kernel_rfl) (by kernel_rfl) (by kernel_rfl) (fun _ _ _ h => h) (Or.inl ⟨by rfl, ?_⟩) ((And.intro x_t_b0 (And.intro x_xa_b0 x_xb_b0))) ?_
  rotate_left
  · intro wq hSq
    go_simp
    exact rfl
  try simp only [Act.put, List.setIfInBounds_toArray, List.set_cons_zero, List.set_cons_succ]
  refine takeH 1 72 (v := .agg (T).toArray) rfl (by rfl) (by kernel_rfl) (by kernel_rfl) (by kernel_rfl) (fun _ _ _ h => h) (yieldsIf_load_mid (by rfl) _ _ rfl _ _ rfl (T) _ (fun wq hq => Box.range (hq.1)) Try.underlying29 rfl ST.out) ((And.intro x_t_b0 (And.intro x_xa_b0 x_xb_b0))) ?_
  try simp only [Act.put, List.setIfInBounds_toArray, List.set_cons_zero, List.set_cons_succ]
  refine wpAnyH_ready (rs := [3]) (by kernel_rfl) (by simp) (AllReadyH.cons rfl (fun K hK => ?_) AllReadyH.nil)
  have nz_t := (x_t_b0).lt
  have nz_xa := (x_xa_b0).lt
  have nz_xb := (x_xb_b0).lt
  refine step_store_part0 (k := 15) (cs := T) (ws := C2) rfl rfl _ _ _ rfl z_c_b0 rfl rfl ST.out (by rw [NT.out, NC.out]; decide) WC2.out OT.out ?_
  intro Wb2 hWb2
  have x_t_b2 : Box Wb2 (w.heap.size + 2) (T) := hWb2.past _ _ (by omega) x_t_b0
  have x_xa_b2 : Box Wb2 (ga) (X.map (Value.int .u8)) := hWb2.past _ _ (by omega) x_xa_b0
  have x_xb_b2 : Box Wb2 (gb) (Y.map (Value.int .u8)) := hWb2.past _ _ (by omega) x_xb_b0
  have z_c_b2 := hWb2.box
  have z_d_b2 : Box Wb2 (w.heap.size + 1) (D) := hWb2.past _ _ (by omega) z_d_b0
  have Bb2 := hWb2.below _ _ (by omega) Bb0
  clear nz_t nz_xa nz_xb x_t_b0 x_xa_b0 x_xb_b0 z_c_b0 z_d_b0 Bb0 j_a_b0 j_b_b0 hWb2
  refine hK.out _ _ (And.intro x_t_b2 (And.intro x_xa_b2 x_xb_b2)) (fun _ => ?_); clear hK K
  refine takeH 4 74 (v := ?vb4_3) rfl (by rfl) (by kernel_rfl) (by kernel_rfl) (by kernel_rfl) (fun _ _ _ h => h) (Or.inl ⟨by rfl, ?_⟩) ((And.intro x_t_b2 (And.intro x_xa_b2 x_xb_b2))) ?_
  rotate_left
  · intro wq hSq
    go_simp
    exact rfl
  try simp only [Act.put, List.setIfInBounds_toArray, List.set_cons_zero, List.set_cons_succ]
  refine wpAnyH_ready (rs := [5]) (by kernel_rfl) (by simp) (AllReadyH.cons rfl (fun K hK => ?_) AllReadyH.nil)
  have nz_t := (x_t_b2).lt
  have nz_xa := (x_xa_b2).lt
  have nz_xb := (x_xb_b2).lt
  refine step_store_part0 (k := 15) (cs := T) (ws := D2) rfl rfl _ _ _ rfl z_d_b2 rfl rfl ST.out (by rw [NT.out, ND.out]; decide) WD2.out OT.out ?_
  intro Wb4 hWb4
  have x_t_b4 : Box Wb4 (w.heap.size + 2) (T) := hWb4.past _ _ (by omega) x_t_b2
  have x_xa_b4 : Box Wb4 (ga) (X.map (Value.int .u8)) := hWb4.past _ _ (by omega) x_xa_b2
  have x_xb_b4 : Box Wb4 (gb) (Y.map (Value.int .u8)) := hWb4.past _ _ (by omega) x_xb_b2
  have z_c_b4 : Box Wb4 (w.heap.size) (C2) := hWb4.past _ _ (by omega) z_c_b2
  have z_d_b4 := hWb4.box
  have Bb4 := hWb4.below _ _ (by omega) Bb2
  clear nz_t nz_xa nz_xb x_t_b2 x_xa_b2 x_xb_b2 z_c_b2 z_d_b2 Bb2 hWb4
  refine hK.out _ _ (And.intro x_t_b4 (And.intro x_xa_b4 x_xb_b4)) (fun _ => ?_); clear hK K
  refine wpAnyH_done (by kernel_rfl) ?_ _
  have hB8 := Bb4; have hs8 := hB8.size
  have x_t8 := x_t_b4
  have x_xa8 := x_xa_b4
  have x_xb8 := x_xb_b4
  have x_c8 := z_c_b4
  have x_d8 := z_d_b4
  clear Bb4 x_t_b4 x_xa_b4 x_xb_b4 z_c_b4 z_d_b4
  clear x_t8
  have J_a8 : Hid (IsL Wb4 .u8 (.slice (some ⟨ga, 0, none⟩) 56 ca) X) := Lib.hid (IsL.range 56 ca HX.out x_xa8.range (by omega) (by omega))
  have J_b8 : Hid (IsL Wb4 .u8 (.slice (some ⟨gb, 0, none⟩) 56 cb) Y) := Lib.hid (IsL.range 56 cb HY.out x_xb8.range (by omega) (by omega))
  go_wp2_with (refine wpList_load_box9 rfl _ _ rfl x_c8 rfl Try.underlying31 rfl SC2.out ?_)
  refine (A3 _).mono ?_
  rintro e w9 ⟨vo, rfl, ha, hb⟩
  clear A3
  have hB9 : Below w.heap.size w w9 := below_thru hB8 hb
  have hs9 := hB9.size
  have x_c9 : Box w9 (w.heap.size) (C2) := Box.below x_c8 hb
  have x_d9 : Box w9 (w.heap.size + 1) (D2) := Box.below x_d8 hb
  have x_xa9 : Box w9 (ga) (X.map (Value.int .u8)) := Box.below x_xa8 hb
  have x_xb9 : Box w9 (gb) (Y.map (Value.int .u8)) := Box.below x_xb8 hb
  have J_a9 : Hid (IsL w9 .u8 (.slice (some ⟨ga, 0, none⟩) 56 ca) X) := Lib.hid (IsL.below J_a8.out hb)
  have J_b9 : Hid (IsL w9 .u8 (.slice (some ⟨gb, 0, none⟩) 56 cb) Y) := Lib.hid (IsL.below J_b8.out hb)
  clear hB8 hs8 x_c8 x_d8 x_xa8 x_xb8 J_a8 J_b8
  clear hb
  have J_o9 : Hid (IsL w9 .u8 (vo) X) := Lib.hid ha
  clear ha
  go_upto_region 10 with fail
  refine wp_region_held_drew (S := fun W => Box W (w.heap.size) (C2) ∧ Box W (w.heap.size + 1) (D2) ∧ Box W (ga) (X.map (Value.int .u8)) ∧ Box W (gb) (Y.map (Value.int .u8))) (by kernel_rfl) (And.intro (x_c9).drew (And.intro (x_d9).drew (And.intro (x_xa9).drew (x_xb9).drew))) (fun _ => ?_)
  refine F_drew (F := fun W => wpAnyH _ _ _ _ _ _ _ _ W) ?_
  intro Wz0 hbz0
  clear hs9
  have x_c_z0 : Box Wz0 (w.heap.size) (C2) := Box.below x_c9 hbz0
  have x_d_z0 : Box Wz0 (w.heap.size + 1) (D2) := Box.below x_d9 hbz0
  have x_xa_z0 : Box Wz0 (ga) (X.map (Value.int .u8)) := Box.below x_xa9 hbz0
  have x_xb_z0 : Box Wz0 (gb) (Y.map (Value.int .u8)) := Box.below x_xb9 hbz0
  have j_a_z0 := Lib.hid (IsL.below J_a9.out hbz0)
  have j_b_z0 := Lib.hid (IsL.below J_b9.out hbz0)
  have j_o_z0 := Lib.hid (IsL.below J_o9.out hbz0)
  have Bz0 := below_thru hB9 hbz0
  clear x_c9 x_d9 x_xa9 x_xb9 J_a9 J_b9 J_o9 hB9 hbz0
  refine takeH 0 80 (v := ?vz0_1) rfl (by rfl) (by kernel_rfl) (by kernel_rfl) (by kernel_rfl) (fun _ _ _ h => h) (Or.inl ⟨by rfl, ?_⟩) ((And.intro x_c_z0 (And.intro x_d_z0 (And.intro x_xa_z0 x_xb_z0)))) ?_
  rotate_left
  · intro wq hSq
    go_simp
    exact rfl
  try simp only [Act.put, List.setIfInBounds_toArray, List.set_cons_zero, List.set_cons_succ]
  refine takeH 1 81 (v := ?vz1_2) rfl (by rfl) (by kernel_rfl) (by kernel_rfl) (by kernel_rfl) (fun _ _ _ h => h) (Or.inl ⟨by rfl, ?_⟩) ((And.intro x_c_z0 (And.intro x_d_z0 (And.intro x_xa_z0 x_xb_z0)))) ?_
  rotate_left
  · intro wq hSq
    go_simp
    exact rfl
  try simp only [Act.put, List.setIfInBounds_toArray, List.set_cons_zero, List.set_cons_succ]
  refine takeH 2 82 (v := ?vz2_3) rfl (by rfl) (by kernel_rfl) (by kernel_rfl) (by kernel_rfl) (fun _ _ _ h => h) (Or.inl ⟨by rfl, ?_⟩) ((And.intro x_c_z0 (And.intro x_d_z0 (And.intro x_xa_z0 x_xb_z0)))) ?_
  rotate_left
  · intro wq hSq
    go_simp
    exact rfl
  try simp only [Act.put, List.setIfInBounds_toArray, List.set_cons_zero, List.set_cons_succ]
  refine takeH 3 83 (v := ?vz3_4) rfl (by rfl) (by kernel_rfl) (by kernel_rfl) (by kernel_rfl) (fun _ _ _ h => h) (Or.inl ⟨by rfl, ?_⟩) ((And.intro x_c_z0 (And.intro x_d_z0 (And.intro x_xa_z0 x_xb_z0)))) ?_
  rotate_left
  · intro wq hSq
    go_simp
    exact rfl
  try simp only [Act.put, List.setIfInBounds_toArray, List.set_cons_zero, List.set_cons_succ]
  refine takeH 4 84 (v := ?vz4_5) rfl (by rfl) (by kernel_rfl) (by kernel_rfl) (by kernel_rfl) (fun _ _ _ h => h) (Or.inl ⟨by rfl, ?_⟩) ((And.intro x_c_z0 (And.intro x_d_z0 (And.intro x_xa_z0 x_xb_z0)))) ?_
  rotate_left
  · intro wq hSq
    go_simp
    exact rfl
  try simp only [Act.put, List.setIfInBounds_toArray, List.set_cons_zero, List.set_cons_succ]
  refine wpAnyH_ready (rs := [5]) (by kernel_rfl) (by simp) (AllReadyH.cons rfl (fun K hK => ?_) AllReadyH.nil)
  go_simp
  refine (sameb_tt _ j_a_z0.out j_o_z0.out).mono ?_
  rintro e Wz6 ⟨rfl, hbz6⟩
  have x_c_z6 : Box Wz6 (w.heap.size) (C2) := Box.below x_c_z0 hbz6
  have x_d_z6 : Box Wz6 (w.heap.size + 1) (D2) := Box.below x_d_z0 hbz6
  have x_xa_z6 : Box Wz6 (ga) (X.map (Value.int .u8)) := Box.below x_xa_z0 hbz6
  have x_xb_z6 : Box Wz6 (gb) (Y.map (Value.int .u8)) := Box.below x_xb_z0 hbz6
  have j_a_z6 := Lib.hid (IsL.below j_a_z0.out hbz6)
  have j_b_z6 := Lib.hid (IsL.below j_b_z0.out hbz6)
  have j_o_z6 := Lib.hid (IsL.below j_o_z0.out hbz6)
  have Bz6 := below_thru Bz0 hbz6
  clear x_c_z0 x_d_z0 x_xa_z0 x_xb_z0 j_a_z0 j_b_z0 j_o_z0 Bz0 hbz6
  refine hK.out _ _ (And.intro x_c_z6 (And.intro x_d_z6 (And.intro x_xa_z6 x_xb_z6))) (fun _ => ?_); clear hK K
  refine takeH 6 86 (v := ?vz6_7) rfl (by rfl) (by kernel_rfl) (by kernel_rfl) (by kernel_rfl) (fun _ _ _ h => h) (Or.inl ⟨by rfl, ?_⟩) ((And.intro x_c_z6 (And.intro x_d_z6 (And.intro x_xa_z6 x_xb_z6)))) ?_
  rotate_left
  · intro wq hSq
    go_simp
    exact rfl
  try simp only [Act.put, List.setIfInBounds_toArray, List.set_cons_zero, List.set_cons_succ]
  refine takeH 7 87 (v := ?vz7_8) rfl (by rfl) (by kernel_rfl) (by kernel_rfl) (by kernel_rfl) (fun _ _ _ h => h) (Or.inl ⟨by rfl, ?_⟩) ((And.intro x_c_z6 (And.intro x_d_z6 (And.intro x_xa_z6 x_xb_z6)))) ?_
  rotate_left
  · intro wq hSq
    go_simp
    exact rfl
  try simp only [Act.put, List.setIfInBounds_toArray, List.set_cons_zero, List.set_cons_succ]
  refine takeH 11 91 (v := ?vz11_9) rfl (by rfl) (by kernel_rfl) (by kernel_rfl) (by kernel_rfl) (fun _ _ _ h => h) (Or.inl ⟨by rfl, ?_⟩) ((And.intro x_c_z6 (And.intro x_d_z6 (And.intro x_xa_z6 x_xb_z6)))) ?_
  rotate_left
  · intro wq hSq
    go_simp
    exact rfl
  try simp only [Act.put, List.setIfInBounds_toArray, List.set_cons_zero, List.set_cons_succ]
  refine takeH 12 92 (v := ?vz12_10) rfl (by rfl) (by kernel_rfl) (by kernel_rfl) (by kernel_rfl) (fun _ _ _ h => h) (Or.inl ⟨by rfl, ?_⟩) ((And.intro x_c_z6 (And.intro x_d_z6 (And.intro x_xa_z6 x_xb_z6)))) ?_
  rotate_left
  · intro wq hSq
    go_simp
    exact rfl
  try simp only [Act.put, List.setIfInBounds_toArray, List.set_cons_zero, List.set_cons_succ]
  refine takeH 8 88 (v := .agg (C2).toArray) rfl (by rfl) (by kernel_rfl) (by kernel_rfl) (by kernel_rfl) (fun _ _ _ h => h) (yieldsIf_load_mid (by rfl) _ _ rfl _ _ rfl (C2) _ (fun wq hq => Box.range (hq.1)) Try.underlying31 rfl SC2.out) ((And.intro x_c_z6 (And.intro x_d_z6 (And.intro x_xa_z6 x_xb_z6)))) ?_
  try simp only [Act.put, List.setIfInBounds_toArray, List.set_cons_zero, List.set_cons_succ]
  refine takeH 9 89 (v := .agg (D2).toArray) rfl (by rfl) (by kernel_rfl) (by kernel_rfl) (by kernel_rfl) (fun _ _ _ h => h) (yieldsIf_load_mid (by rfl) _ _ rfl _ _ rfl (D2) _ (fun wq hq => Box.range (hq.2.1)) Try.underlying31 rfl SD2.out) ((And.intro x_c_z6 (And.intro x_d_z6 (And.intro x_xa_z6 x_xb_z6)))) ?_
  try simp only [Act.put, List.setIfInBounds_toArray, List.set_cons_zero, List.set_cons_succ]
  refine takeH 10 90 (v := ?vz10_11) rfl (by rfl) (by kernel_rfl) (by kernel_rfl) (by kernel_rfl) (fun _ _ _ h => h) (Or.inl ⟨by rfl, ?_⟩) ((And.intro x_c_z6 (And.intro x_d_z6 (And.intro x_xa_z6 x_xb_z6)))) ?_
  rotate_left
  · intro wq hSq
    go_simp
    exact rfl
  try simp only [Act.put, List.setIfInBounds_toArray, List.set_cons_zero, List.set_cons_succ]
  refine wpAnyH_ready (rs := [13]) (by kernel_rfl) (by simp) (AllReadyH.cons rfl (fun K hK => ?_) AllReadyH.nil)
  go_simp
  refine (sameb_ff _ j_a_z6.out j_b_z6.out HNE.out).mono ?_
  rintro e Wz12 ⟨rfl, hbz12⟩
  have x_c_z12 : Box Wz12 (w.heap.size) (C2) := Box.below x_c_z6 hbz12
  have x_d_z12 : Box Wz12 (w.heap.size + 1) (D2) := Box.below x_d_z6 hbz12
  have x_xa_z12 : Box Wz12 (ga) (X.map (Value.int .u8)) := Box.below x_xa_z6 hbz12
  have x_xb_z12 : Box Wz12 (gb) (Y.map (Value.int .u8)) := Box.below x_xb_z6 hbz12
  have j_a_z12 := Lib.hid (IsL.below j_a_z6.out hbz12)
  have j_b_z12 := Lib.hid (IsL.below j_b_z6.out hbz12)
  have j_o_z12 := Lib.hid (IsL.below j_o_z6.out hbz12)
  have Bz12 := below_thru Bz6 hbz12
  clear x_c_z6 x_d_z6 x_xa_z6 x_xb_z6 j_a_z6 j_b_z6 j_o_z6 Bz6 hbz12
  refine hK.out _ _ (And.intro x_c_z12 (And.intro x_d_z12 (And.intro x_xa_z12 x_xb_z12))) (fun _ => ?_); clear hK K
  refine takeH 14 94 (v := ?vz14_13) rfl (by rfl) (by kernel_rfl) (by kernel_rfl) (by kernel_rfl) (fun _ _ _ h => h) (Or.inl ⟨by rfl, ?_⟩) ((And.intro x_c_z12 (And.intro x_d_z12 (And.intro x_xa_z12 x_xb_z12)))) ?_
  rotate_left
  · intro wq hSq
    go_simp
    exact rfl
  try simp only [Act.put, List.setIfInBounds_toArray, List.set_cons_zero, List.set_cons_succ]
  refine takeH 15 95 (v := ?vz15_14) rfl (by rfl) (by kernel_rfl) (by kernel_rfl) (by kernel_rfl) (fun _ _ _ h => h) (Or.inl ⟨by rfl, ?_⟩) ((And.intro x_c_z12 (And.intro x_d_z12 (And.intro x_xa_z12 x_xb_z12)))) ?_
  rotate_left
  · intro wq hSq
    go_simp
    exact rfl
  try simp only [Act.put, List.setIfInBounds_toArray, List.set_cons_zero, List.set_cons_succ]
  refine takeH 16 96 (v := ?vz16_15) rfl (by rfl) (by kernel_rfl) (by kernel_rfl) (by kernel_rfl) (fun _ _ _ h => h) (Or.inl ⟨by rfl, ?_⟩) ((And.intro x_c_z12 (And.intro x_d_z12 (And.intro x_xa_z12 x_xb_z12)))) ?_
  rotate_left
  · intro wq hSq
    go_simp
    exact rfl
  try simp only [Act.put, List.setIfInBounds_toArray, List.set_cons_zero, List.set_cons_succ]
  refine wpAnyH_ready (rs := [17]) (by kernel_rfl) (by simp) (AllReadyH.cons rfl (fun K hK => ?_) AllReadyH.nil)
  go_simp
  refine (alive9_is _).mono ?_
  rintro e Wz16 ⟨rfl, hbz16⟩
  have x_c_z16 : Box Wz16 (w.heap.size) (C2) := Box.below x_c_z12 hbz16
  have x_d_z16 : Box Wz16 (w.heap.size + 1) (D2) := Box.below x_d_z12 hbz16
  have x_xa_z16 : Box Wz16 (ga) (X.map (Value.int .u8)) := Box.below x_xa_z12 hbz16
  have x_xb_z16 : Box Wz16 (gb) (Y.map (Value.int .u8)) := Box.below x_xb_z12 hbz16
  have j_a_z16 := Lib.hid (IsL.below j_a_z12.out hbz16)
  have j_b_z16 := Lib.hid (IsL.below j_b_z12.out hbz16)
  have j_o_z16 := Lib.hid (IsL.below j_o_z12.out hbz16)
  have Bz16 := below_thru Bz12 hbz16
  clear x_c_z12 x_d_z12 x_xa_z12 x_xb_z12 j_a_z12 j_b_z12 j_o_z12 Bz12 hbz16
  refine hK.out _ _ (And.intro x_c_z16 (And.intro x_d_z16 (And.intro x_xa_z16 x_xb_z16))) (fun _ => ?_); clear hK K
  refine takeH 18 98 (v := ?vz18_17) rfl (by rfl) (by kernel_rfl) (by kernel_rfl) (by kernel_rfl) (fun _ _ _ h => h) (Or.inl ⟨by rfl, ?_⟩) ((And.intro x_c_z16 (And.intro x_d_z16 (And.intro x_xa_z16 x_xb_z16)))) ?_
  rotate_left
  · intro wq hSq
    go_simp
    exact rfl
  try simp only [Act.put, List.setIfInBounds_toArray, List.set_cons_zero, List.set_cons_succ]
  refine takeH 19 6 (v := ?vz19_18) rfl (by rfl) (by kernel_rfl) (by kernel_rfl) (by kernel_rfl) (fun _ _ _ h => h) (Or.inl ⟨by rfl, ?_⟩) ((And.intro x_c_z16 (And.intro x_d_z16 (And.intro x_xa_z16 x_xb_z16)))) ?_
  rotate_left
  · intro wq hSq
    go_simp
    exact rfl
  try simp only [Act.put, List.setIfInBounds_toArray, List.set_cons_zero, List.set_cons_succ]
  refine wpAnyH_done (by kernel_rfl) ?_ _
  go_wp2_with fail
  go_returns
  exact ⟨rfl, Bz16⟩

theorem before9_is (c d : Cmd) {g : List Int} (hg : g.length = 32) (hgb : Byts g) (w : World) : Calls Try.prog 7 #[.agg (ccell c).toArray, .agg (ccell d).toArray, .agg (g.map (Value.int .u8)).toArray] w fun e w' => e = .returned (.bool true) ∧ Below w.heap.size w w' := by
  by_cases hc : c.Ok
  · by_cases hd : d.Ok
    · by_cases he : c.msg = d.msg
      · exact bf9_eq c d hg hgb hc hd he w
      · exact bf9_ne c d hg hgb hc hd he w
    · exact bf9_no2 c d hg hc hd w
  · exact bf9_no c d hg hc w

end Go.Proofs.Ytkpdlbcmnfphmaa
