/-
  The law's own functions of layer 12, walked: request, command, accepts, fit.
-/
import Derived.Test.YtpccahdbienjeaaDoorIdPkF
import Derived.Test.YtpccahdbienjeaaDoorGT2
namespace Go.Proofs.YtpccahdbienjeaaDoor
open Go.RowKit

set_option maxRecDepth 100000 in
theorem build_rq12 (k : Nums) {g : List Int} (h : g.length = 32) (e c : Int) (W : World) : (Instr.build 34 #[(0, .agg (tcell k g).toArray), (1, .int .u16 e), (2, .int .u32 c)]).run Tryd.prog W = .ok (.agg (tcell k g ++ [Value.int .u16 e, Value.int .u32 c]).toArray) W := by
  obtain ⟨x0, x1, x2, x3, x4, x5, x6, x7, x8, x9, x10, x11, x12, x13, x14, x15, x16, x17, x18, x19, x20, x21, x22, x23, x24, x25, x26, x27, x28, x29, x30, x31, rfl⟩ := list32 h
  kernel_rfl
set_option maxRecDepth 100000 in
theorem build_fr12 (k : Nums) {g : List Int} (h : g.length = 32) (e c : Int) (W : World) : (Instr.build 41 #[(0, .int .u8 1), (1, .agg (tcell k g ++ [Value.int .u16 e, Value.int .u32 c]).toArray)]).run Tryd.prog W = .ok (.agg (Value.int .u8 1 :: ((tcell k g ++ [Value.int .u16 e, Value.int .u32 c]) ++ ccell Cmd.zero)).toArray) W := by
  obtain ⟨x0, x1, x2, x3, x4, x5, x6, x7, x8, x9, x10, x11, x12, x13, x14, x15, x16, x17, x18, x19, x20, x21, x22, x23, x24, x25, x26, x27, x28, x29, x30, x31, rfl⟩ := list32 h
  kernel_rfl
set_option maxRecDepth 100000 in
theorem build_fc12 (op t u b0 r0 p0 b1 r1 p1 b2 r2 p2 us en x : Int) {g : List Int} (h : g.length = 32) (W : World) : (Instr.build 41 #[(0, .int .u8 2), (2, .agg (.int .u8 op :: .int .u32 t :: .int .u32 u :: .int .i64 b0 :: .int .i64 r0 :: .int .i64 p0 :: .int .i64 b1 :: .int .i64 r1 :: .int .i64 p1 :: .int .i64 b2 :: .int .i64 r2 :: .int .i64 p2 :: .int .u8 us :: .int .u8 en :: .int .u64 x :: g.map (Value.int .u8)).toArray)]).run Tryd.prog W =
    .ok (.agg (Value.int .u8 2 :: (rcell Req.zero ++ (.int .u8 op :: .int .u32 t :: .int .u32 u :: .int .i64 b0 :: .int .i64 r0 :: .int .i64 p0 :: .int .i64 b1 :: .int .i64 r1 :: .int .i64 p1 :: .int .i64 b2 :: .int .i64 r2 :: .int .i64 p2 :: .int .u8 us :: .int .u8 en :: .int .u64 x :: g.map (Value.int .u8)))).toArray) W := by
  obtain ⟨x0, x1, x2, x3, x4, x5, x6, x7, x8, x9, x10, x11, x12, x13, x14, x15, x16, x17, x18, x19, x20, x21, x22, x23, x24, x25, x26, x27, x28, x29, x30, x31, rfl⟩ := list32 h
  kernel_rfl
theorem build_mr12 (r : Req) (W : World) : (Instr.build 41 #[(0, .int .u8 1), (1, .agg (rcell r).toArray)]).run Tryd.prog W = .ok (.agg (mcell (Frm.req r)).toArray) W := build_fr12 r.k r.hg r.ep r.co W
theorem build_mc12 (c : Cmd) (W : World) : (Instr.build 41 #[(0, .int .u8 2), (2, .agg (ccell c).toArray)]).run Tryd.prog W = .ok (.agg (mcell (Frm.cmd c)).toArray) W :=
  build_fc12 c.op c.t c.u c.l0.b c.l0.r c.l0.p c.l1.b c.l1.r c.l1.p c.l2.b c.l2.r c.l2.p c.us c.en c.x c.hg W

set_option maxRecDepth 100000 in
set_option maxHeartbeats 6400000 in
theorem lreq12_is (r : Req) (w : World) : Calls Tryd.prog 7 #[.agg r.tk.v.toArray, .int .u16 r.ep, .int .u32 r.co] w fun e w' => e = .returned (.agg (mcell (Frm.req r)).toArray) ∧ Below w.heap.size w w' := by
  have SP := Lib.hid (size_tk r.tk)
  have SF := Lib.hid (size_frm (Frm.req r)); have LF := Lib.hid (len_frm Frm.zero (Frm.req r)); have OF := Lib.hid (one_frm (Frm.req r))
  have B2 := fun W => build_rq12 r.k r.hg r.ep r.co W; have B3 := fun W => build_mr12 r W
  rw [show tcell r.k r.g ++ [Value.int .u16 r.ep, Value.int .u32 r.co] = rcell r from rfl, show tcell r.k r.g = r.tk.v from rfl] at B2
  obtain ⟨R, hR⟩ : ∃ X, rcell r = X := ⟨_, rfl⟩
  rw [hR] at B2 B3
  clear hR
  obtain ⟨P, hP⟩ : ∃ X, r.tk.v = X := ⟨_, rfl⟩
  rw [hP] at SP B2 ⊢
  clear hP
  obtain ⟨F, hF⟩ : ∃ X, mcell (Frm.req r) = X := ⟨_, rfl⟩
  rw [hF] at B3 SF LF OF ⊢
  clear hF
  go_enter Tryd.func7, Tryd.ntmps7
  go_upto_region 1 with fail
  refine F_gen (F := fun W => Code.wp _ _ _ _ W) (J := fun W => Box W (w.heap.size) (P) ∧ Box W (w.heap.size + 1) (mcell Frm.zero) ∧ Below w.heap.size w W) (And.intro (Box.alloc (Box.newc rfl rfl) _) (And.intro (Box.newc rfl (by simp)) (by go_grown))) ?_
  intro w0 ⟨e_t, e_r, hB0⟩
  have hs0 := hB0.size
  have x_t0 := e_t; clear e_t
  have x_r0 := e_r; clear e_r
  have lq := (x_r0).lt
  go_wp2_with (first | (refine wpList_load_box9 rfl _ _ rfl x_t0 rfl Tryd.underlying31 rfl SP.out ?_) | (refine wpList_build9 rfl 34 _ rfl (us := #[(0, .agg P.toArray), (1, .int .u16 r.ep), (2, .int .u32 r.co)]) (by rfl) (B2 _) ?_) | (refine wpList_build9 rfl 41 _ rfl (us := #[(0, .int .u8 1), (1, .agg R.toArray)]) (by rfl) (B3 _) ?_) | (refine wpList_store_box (cs := F) rfl _ _ _ rfl x_r0 rfl rfl SF.out LF.out OF.out ?_; intro W99 hW99))
  exact bodyPost_ret (results_box Tryd.results7 hW99.box rfl Tryd.underlying41 rfl SF.out) rfl ⟨rfl, hW99.below _ _ (by omega) hB0⟩

set_option maxRecDepth 100000 in
set_option maxHeartbeats 6400000 in
theorem lcmd12_is (c : Cmd) (w : World) : Calls Tryd.prog 8 #[.agg (ccell c).toArray] w fun e w' => e = .returned (.agg (mcell (Frm.cmd c)).toArray) ∧ Below w.heap.size w w' := by
  have SP := Lib.hid (size_cmd c); have LP := Lib.hid (len_cmd Cmd.zero c); have OP := Lib.hid (one_cmd c)
  have SF := Lib.hid (size_frm (Frm.cmd c)); have LF := Lib.hid (len_frm Frm.zero (Frm.cmd c)); have OF := Lib.hid (one_frm (Frm.cmd c))
  have B3 := fun W => build_mc12 c W
  obtain ⟨P, hP⟩ : ∃ X, ccell c = X := ⟨_, rfl⟩
  rw [hP] at SP LP OP B3 ⊢
  clear hP
  obtain ⟨F, hF⟩ : ∃ X, mcell (Frm.cmd c) = X := ⟨_, rfl⟩
  rw [hF] at B3 SF LF OF ⊢
  clear hF
  go_enter Tryd.func8, Tryd.ntmps8
  go_upto_region 1 with fail
  refine F_gen (F := fun W => Code.wp _ _ _ _ W) (J := fun W => Box W (w.heap.size) (P) ∧ Box W (w.heap.size + 1) (mcell Frm.zero) ∧ Below w.heap.size w W) (And.intro (Box.alloc (Box.newc rfl rfl) _) (And.intro (Box.newc rfl (by simp)) (by go_grown))) ?_
  intro w0 ⟨e_c, e_r, hB0⟩
  have hs0 := hB0.size
  have x_c0 := e_c; clear e_c
  have x_r0 := e_r; clear e_r
  have lq := (x_r0).lt
  go_wp2_with (first | (refine wpList_load_box9 rfl _ _ rfl x_c0 rfl Tryd.underlying39 rfl SP.out ?_) | (refine wpList_build9 rfl 41 _ rfl (us := #[(0, .int .u8 2), (2, .agg P.toArray)]) (by rfl) (B3 _) ?_) | (refine wpList_store_box (cs := F) rfl _ _ _ rfl x_r0 rfl rfl SF.out LF.out OF.out ?_; intro W99 hW99))
  exact bodyPost_ret (results_box Tryd.results8 hW99.box rfl Tryd.underlying41 rfl SF.out) rfl ⟨rfl, hW99.below _ _ (by omega) hB0⟩

/-- What the law's accepts answers: a valid table, a valid frame, accepted. -/
def Acc (ts : List Tk) (cs : List Cmd) (f : Frm) : Prop := ChkD ts cs 0 ∧ f.Ok ∧ AccD ts cs f
theorem acc_of {ts : List Tk} {cs : List Cmd} {f : Frm} {b : Bool} {q : Int} (h : AcpD ts cs f b q) : (b && (q == 0)) = true ↔ Acc ts cs f := by
  rcases h with ⟨hn, hq, rfl⟩ | ⟨rfl, hq, hf, rfl⟩ | ⟨rfl, hq, hf, hb⟩
  · simp
    exact fun ⟨h0, _⟩ => hn (hq.uniq h0)
  · simp
    exact fun ⟨_, h0, _⟩ => hf h0
  · simp [hb]
    exact ⟨fun h => ⟨hq, hf, h⟩, fun h => h.2.2⟩
set_option maxRecDepth 100000 in
set_option maxHeartbeats 6400000 in
theorem lacc12_is {v : Value} {ts : List Tk} {cs : List Cmd} (f : Frm) (hl : ts.length + cs.length ≤ 180) {b : Bool} (hb : b = true ↔ Acc ts cs f) (w : World) (h1 : IsD w v ts cs) : Calls Tryd.prog 16 #[v, .agg (mcell f).toArray] w fun e w' => e = .returned (.bool b) ∧ Below w.heap.size w w' := by
  obtain ⟨x, q, hx⟩ := AcpD.ex ts cs f
  have PA := fun (W : World) (u : Value) (h : IsD W u ts cs) => pacp_is f hl hx W h
  have hxb : (x && (q == 0)) = b := bool_eq12 (acc_of hx) hb
  have HD := Lib.hid h1
  obtain ⟨v1, v2, rfl, g1, g2⟩ := id h1
  have SD := Lib.hid (size_id12 v1 v2)
  clear g1 g2 h1
  have SV := Lib.hid (size_frm f)
  obtain ⟨V, hV⟩ : ∃ X, mcell f = X := ⟨_, rfl⟩; rw [hV] at SV PA ⊢; clear hV
  clear hx hb hl
  cases x with
  | true =>
    have hq0 : (q == 0) = b := by simpa using hxb
    clear hxb
    go_enter Tryd.func16, Tryd.ntmps16
    go_upto_region 1 with fail
    refine F_gen (F := fun W => Code.wp _ _ _ _ W) (J := fun W => Box W (w.heap.size) ([v1, v2]) ∧ Box W (w.heap.size + 1) (V) ∧ Below w.heap.size w W) (And.intro (Box.alloc (Box.newc rfl rfl) _) (And.intro (Box.newc rfl (by simp)) (by go_grown))) ?_
    intro w0 ⟨e_d, e_f, hB0⟩
    have hs0 := hB0.size
    have x_d0 := e_d; clear e_d
    have x_f0 := e_f; clear e_f
    go_wp2_with (first
      | (refine wpList_load_box9 rfl _ _ rfl x_d0 rfl Tryd.underlying25 rfl SD.out ?_)
      | (refine wpList_load_box9 rfl _ _ rfl x_f0 rfl Tryd.underlying41 rfl SV.out ?_))
    refine (PA _ _ (HD.out.below hB0)).mono ?_
    rintro e w1 ⟨rfl, hb⟩
    have hB1 : Below w.heap.size w w1 := below_thru hB0 hb
    have hs1 := hB1.size
    have x_d1 : Box w1 (w.heap.size) ([v1, v2]) := Box.below x_d0 hb
    have x_f1 : Box w1 (w.heap.size + 1) (V) := Box.below x_f0 hb
    clear hB0 hs0 x_d0 x_f0
    clear hb
    go_wp2_with fail
    go_returns
    exact ⟨rfl, hB1⟩
  | false =>
    have hq0 : false = b := by simpa using hxb
    subst hq0
    clear hxb
    go_enter Tryd.func16, Tryd.ntmps16
    go_upto_region 1 with fail
    refine F_gen (F := fun W => Code.wp _ _ _ _ W) (J := fun W => Box W (w.heap.size) ([v1, v2]) ∧ Box W (w.heap.size + 1) (V) ∧ Below w.heap.size w W) (And.intro (Box.alloc (Box.newc rfl rfl) _) (And.intro (Box.newc rfl (by simp)) (by go_grown))) ?_
    intro w0 ⟨e_d, e_f, hB0⟩
    have hs0 := hB0.size
    have x_d0 := e_d; clear e_d
    have x_f0 := e_f; clear e_f
    go_wp2_with (first
      | (refine wpList_load_box9 rfl _ _ rfl x_d0 rfl Tryd.underlying25 rfl SD.out ?_)
      | (refine wpList_load_box9 rfl _ _ rfl x_f0 rfl Tryd.underlying41 rfl SV.out ?_))
    refine (PA _ _ (HD.out.below hB0)).mono ?_
    rintro e w1 ⟨rfl, hb⟩
    have hB1 : Below w.heap.size w w1 := below_thru hB0 hb
    have hs1 := hB1.size
    have x_d1 : Box w1 (w.heap.size) ([v1, v2]) := Box.below x_d0 hb
    have x_f1 : Box w1 (w.heap.size + 1) (V) := Box.below x_f0 hb
    clear hB0 hs0 x_d0 x_f0
    clear hb
    go_wp2_with fail
    go_returns
    exact ⟨rfl, hB1⟩

def FitD (ts : List Tk) (cs : List Cmd) (f : Frm) : Prop := ¬ GrtD (ts.length + cs.length) ∧ ChkD ts cs 0 ∧ f.Ok
theorem not_grt {n : Nat} (h : ¬ GrtD n) : n ≤ 180 := by unfold GrtD at h; omega
set_option maxRecDepth 100000 in
set_option maxHeartbeats 6400000 in
theorem lfit12_a {v : Value} {ts : List Tk} {cs : List Cmd} (f : Frm) (hl : ts.length + cs.length ≤ 1000000000000000) (hg : GrtD (ts.length + cs.length)) (w : World) (h1 : IsD w v ts cs) : Calls Tryd.prog 4 #[v, .agg (mcell f).toArray] w fun e w' => e = .returned (.bool false) ∧ Below w.heap.size w w' := by
  have GT := fun (W : World) (u : Value) (h : IsD W u ts cs) => rgreat_is (b := true) W h hl (⟨fun _ => hg, fun _ => rfl⟩)
  have HD := Lib.hid h1
  obtain ⟨v1, v2, rfl, g1, g2⟩ := id h1
  have SD := Lib.hid (size_id12 v1 v2)
  clear g1 g2 h1
  have SV := Lib.hid (size_frm f)
  obtain ⟨V, hV⟩ : ∃ X, mcell f = X := ⟨_, rfl⟩; rw [hV] at SV ⊢; clear hV
  clear hl hg
  go_enter Tryd.func4, Tryd.ntmps4
  go_upto_region 1 with fail
  refine F_gen (F := fun W => Code.wp _ _ _ _ W) (J := fun W => Box W (w.heap.size) ([v1, v2]) ∧ Box W (w.heap.size + 1) (V) ∧ Below w.heap.size w W) (And.intro (Box.alloc (Box.newc rfl rfl) _) (And.intro (Box.newc rfl (by simp)) (by go_grown))) ?_
  intro w0 ⟨e_d, e_f, hB0⟩
  have hs0 := hB0.size
  have x_d0 := e_d; clear e_d
  have x_f0 := e_f; clear e_f
  go_wp2_with (refine wpList_load_box9 rfl _ _ rfl x_d0 rfl Tryd.underlying25 rfl SD.out ?_)
  refine (GT _ _ (HD.out.below hB0)).mono ?_
  rintro e w1 ⟨rfl, hb⟩
  have hB1 : Below w.heap.size w w1 := below_thru hB0 hb
  have hs1 := hB1.size
  have x_d1 : Box w1 (w.heap.size) ([v1, v2]) := Box.below x_d0 hb
  have x_f1 : Box w1 (w.heap.size + 1) (V) := Box.below x_f0 hb
  clear hB0 hs0 x_d0 x_f0
  clear hb
  go_wp2_with fail
  go_returns
  exact ⟨rfl, hB1⟩

set_option maxRecDepth 100000 in
set_option maxHeartbeats 6400000 in
theorem lfit12_b {v : Value} {ts : List Tk} {cs : List Cmd} (f : Frm) (hl : ts.length + cs.length ≤ 1000000000000000) (hg : ¬ GrtD (ts.length + cs.length)) {q : Int} (hq : ChkD ts cs q) (hn : q ≠ 0) (w : World) (h1 : IsD w v ts cs) : Calls Tryd.prog 4 #[v, .agg (mcell f).toArray] w fun e w' => e = .returned (.bool false) ∧ Below w.heap.size w w' := by
  have GT := fun (W : World) (u : Value) (h : IsD W u ts cs) => rgreat_is (b := false) W h hl (⟨fun h => (Bool.false_ne_true h).elim, fun h => absurd h hg⟩)
  have CK := fun (W : World) (u : Value) (h : IsD W u ts cs) => rchk12_is W h (by have := not_grt hg; omega) hq
  have d1 : (q == 0) = false := by simpa using hn
  have HD := Lib.hid h1
  obtain ⟨v1, v2, rfl, g1, g2⟩ := id h1
  have SD := Lib.hid (size_id12 v1 v2)
  clear g1 g2 h1
  have SV := Lib.hid (size_frm f)
  obtain ⟨V, hV⟩ : ∃ X, mcell f = X := ⟨_, rfl⟩; rw [hV] at SV ⊢; clear hV
  clear hl hg hq hn
  go_enter Tryd.func4, Tryd.ntmps4
  go_upto_region 1 with fail
  refine F_gen (F := fun W => Code.wp _ _ _ _ W) (J := fun W => Box W (w.heap.size) ([v1, v2]) ∧ Box W (w.heap.size + 1) (V) ∧ Below w.heap.size w W) (And.intro (Box.alloc (Box.newc rfl rfl) _) (And.intro (Box.newc rfl (by simp)) (by go_grown))) ?_
  intro w0 ⟨e_d, e_f, hB0⟩
  have hs0 := hB0.size
  have x_d0 := e_d; clear e_d
  have x_f0 := e_f; clear e_f
  go_wp2_with (refine wpList_load_box9 rfl _ _ rfl x_d0 rfl Tryd.underlying25 rfl SD.out ?_)
  refine (GT _ _ (HD.out.below hB0)).mono ?_
  rintro e w1 ⟨rfl, hb⟩
  have hB1 : Below w.heap.size w w1 := below_thru hB0 hb
  have hs1 := hB1.size
  have x_d1 : Box w1 (w.heap.size) ([v1, v2]) := Box.below x_d0 hb
  have x_f1 : Box w1 (w.heap.size + 1) (V) := Box.below x_f0 hb
  clear hB0 hs0 x_d0 x_f0
  clear hb
  go_wp2_with (refine wpList_load_box9 rfl _ _ rfl x_d1 rfl Tryd.underlying25 rfl SD.out ?_)
  refine (CK _ _ (HD.out.below hB1)).mono ?_
  rintro e w2 ⟨rfl, hb⟩
  have hB2 : Below w.heap.size w w2 := below_thru hB1 hb
  have hs2 := hB2.size
  have x_d2 : Box w2 (w.heap.size) ([v1, v2]) := Box.below x_d1 hb
  have x_f2 : Box w2 (w.heap.size + 1) (V) := Box.below x_f1 hb
  clear hB1 hs1 x_d1 x_f1
  clear hb
  go_wp2_with fail
  go_returns
  exact ⟨rfl, hB2⟩

set_option maxRecDepth 100000 in
set_option maxHeartbeats 6400000 in
theorem lfit12_c {v : Value} {ts : List Tk} {cs : List Cmd} (f : Frm) (hl : ts.length + cs.length ≤ 1000000000000000) (hg : ¬ GrtD (ts.length + cs.length)) (hq : ChkD ts cs 0) (hf : ¬ f.Ok) (w : World) (h1 : IsD w v ts cs) : Calls Tryd.prog 4 #[v, .agg (mcell f).toArray] w fun e w' => e = .returned (.bool false) ∧ Below w.heap.size w w' := by
  have GT := fun (W : World) (u : Value) (h : IsD W u ts cs) => rgreat_is (b := false) W h hl (⟨fun h => (Bool.false_ne_true h).elim, fun h => absurd h hg⟩)
  have CK := fun (W : World) (u : Value) (h : IsD W u ts cs) => rchk12_is W h (by have := not_grt hg; omega) hq
  have FK := fun W => rchk_is f (q := 8) (Lib.hid (Or.inr ⟨rfl, hf⟩)) W
  have HD := Lib.hid h1
  obtain ⟨v1, v2, rfl, g1, g2⟩ := id h1
  have SD := Lib.hid (size_id12 v1 v2)
  clear g1 g2 h1
  have SV := Lib.hid (size_frm f)
  obtain ⟨V, hV⟩ : ∃ X, mcell f = X := ⟨_, rfl⟩; rw [hV] at SV FK ⊢; clear hV
  clear hl hg hq hf
  go_enter Tryd.func4, Tryd.ntmps4
  go_upto_region 1 with fail
  refine F_gen (F := fun W => Code.wp _ _ _ _ W) (J := fun W => Box W (w.heap.size) ([v1, v2]) ∧ Box W (w.heap.size + 1) (V) ∧ Below w.heap.size w W) (And.intro (Box.alloc (Box.newc rfl rfl) _) (And.intro (Box.newc rfl (by simp)) (by go_grown))) ?_
  intro w0 ⟨e_d, e_f, hB0⟩
  have hs0 := hB0.size
  have x_d0 := e_d; clear e_d
  have x_f0 := e_f; clear e_f
  go_wp2_with (refine wpList_load_box9 rfl _ _ rfl x_d0 rfl Tryd.underlying25 rfl SD.out ?_)
  refine (GT _ _ (HD.out.below hB0)).mono ?_
  rintro e w1 ⟨rfl, hb⟩
  have hB1 : Below w.heap.size w w1 := below_thru hB0 hb
  have hs1 := hB1.size
  have x_d1 : Box w1 (w.heap.size) ([v1, v2]) := Box.below x_d0 hb
  have x_f1 : Box w1 (w.heap.size + 1) (V) := Box.below x_f0 hb
  clear hB0 hs0 x_d0 x_f0
  clear hb
  go_wp2_with (refine wpList_load_box9 rfl _ _ rfl x_d1 rfl Tryd.underlying25 rfl SD.out ?_)
  refine (CK _ _ (HD.out.below hB1)).mono ?_
  rintro e w2 ⟨rfl, hb⟩
  have hB2 : Below w.heap.size w w2 := below_thru hB1 hb
  have hs2 := hB2.size
  have x_d2 : Box w2 (w.heap.size) ([v1, v2]) := Box.below x_d1 hb
  have x_f2 : Box w2 (w.heap.size + 1) (V) := Box.below x_f1 hb
  clear hB1 hs1 x_d1 x_f1
  clear hb
  go_wp2_with (refine wpList_load_box9 rfl _ _ rfl x_f2 rfl Tryd.underlying41 rfl SV.out ?_)
  refine (FK _).mono ?_
  rintro e w3 ⟨rfl, hb⟩
  have hB3 : Below w.heap.size w w3 := below_thru hB2 hb
  have hs3 := hB3.size
  have x_d3 : Box w3 (w.heap.size) ([v1, v2]) := Box.below x_d2 hb
  have x_f3 : Box w3 (w.heap.size + 1) (V) := Box.below x_f2 hb
  clear hB2 hs2 x_d2 x_f2
  clear hb
  go_wp2_with fail
  go_returns
  exact ⟨rfl, hB3⟩

set_option maxRecDepth 100000 in
set_option maxHeartbeats 6400000 in
theorem lfit12_d {v : Value} {ts : List Tk} {cs : List Cmd} (f : Frm) (hl : ts.length + cs.length ≤ 1000000000000000) (hg : ¬ GrtD (ts.length + cs.length)) (hq : ChkD ts cs 0) (hf : f.Ok) (w : World) (h1 : IsD w v ts cs) : Calls Tryd.prog 4 #[v, .agg (mcell f).toArray] w fun e w' => e = .returned (.bool true) ∧ Below w.heap.size w w' := by
  have GT := fun (W : World) (u : Value) (h : IsD W u ts cs) => rgreat_is (b := false) W h hl (⟨fun h => (Bool.false_ne_true h).elim, fun h => absurd h hg⟩)
  have CK := fun (W : World) (u : Value) (h : IsD W u ts cs) => rchk12_is W h (by have := not_grt hg; omega) hq
  have FK := fun W => rchk_is f (q := 0) (Lib.hid (Or.inl ⟨rfl, hf⟩)) W
  have HD := Lib.hid h1
  obtain ⟨v1, v2, rfl, g1, g2⟩ := id h1
  have SD := Lib.hid (size_id12 v1 v2)
  clear g1 g2 h1
  have SV := Lib.hid (size_frm f)
  obtain ⟨V, hV⟩ : ∃ X, mcell f = X := ⟨_, rfl⟩; rw [hV] at SV FK ⊢; clear hV
  clear hl hg hq hf
  go_enter Tryd.func4, Tryd.ntmps4
  go_upto_region 1 with fail
  refine F_gen (F := fun W => Code.wp _ _ _ _ W) (J := fun W => Box W (w.heap.size) ([v1, v2]) ∧ Box W (w.heap.size + 1) (V) ∧ Below w.heap.size w W) (And.intro (Box.alloc (Box.newc rfl rfl) _) (And.intro (Box.newc rfl (by simp)) (by go_grown))) ?_
  intro w0 ⟨e_d, e_f, hB0⟩
  have hs0 := hB0.size
  have x_d0 := e_d; clear e_d
  have x_f0 := e_f; clear e_f
  go_wp2_with (refine wpList_load_box9 rfl _ _ rfl x_d0 rfl Tryd.underlying25 rfl SD.out ?_)
  refine (GT _ _ (HD.out.below hB0)).mono ?_
  rintro e w1 ⟨rfl, hb⟩
  have hB1 : Below w.heap.size w w1 := below_thru hB0 hb
  have hs1 := hB1.size
  have x_d1 : Box w1 (w.heap.size) ([v1, v2]) := Box.below x_d0 hb
  have x_f1 : Box w1 (w.heap.size + 1) (V) := Box.below x_f0 hb
  clear hB0 hs0 x_d0 x_f0
  clear hb
  go_wp2_with (refine wpList_load_box9 rfl _ _ rfl x_d1 rfl Tryd.underlying25 rfl SD.out ?_)
  refine (CK _ _ (HD.out.below hB1)).mono ?_
  rintro e w2 ⟨rfl, hb⟩
  have hB2 : Below w.heap.size w w2 := below_thru hB1 hb
  have hs2 := hB2.size
  have x_d2 : Box w2 (w.heap.size) ([v1, v2]) := Box.below x_d1 hb
  have x_f2 : Box w2 (w.heap.size + 1) (V) := Box.below x_f1 hb
  clear hB1 hs1 x_d1 x_f1
  clear hb
  go_wp2_with (refine wpList_load_box9 rfl _ _ rfl x_f2 rfl Tryd.underlying41 rfl SV.out ?_)
  refine (FK _).mono ?_
  rintro e w3 ⟨rfl, hb⟩
  have hB3 : Below w.heap.size w w3 := below_thru hB2 hb
  have hs3 := hB3.size
  have x_d3 : Box w3 (w.heap.size) ([v1, v2]) := Box.below x_d2 hb
  have x_f3 : Box w3 (w.heap.size + 1) (V) := Box.below x_f2 hb
  clear hB2 hs2 x_d2 x_f2
  clear hb
  go_wp2_with fail
  go_returns
  exact ⟨rfl, hB3⟩

theorem lfit12_is {v : Value} {ts : List Tk} {cs : List Cmd} (f : Frm) (hl : ts.length + cs.length ≤ 1000000000000000) {b : Bool} (hb : b = true ↔ FitD ts cs f) (w : World) (h1 : IsD w v ts cs) : Calls Tryd.prog 4 #[v, .agg (mcell f).toArray] w fun e w' => e = .returned (.bool b) ∧ Below w.heap.size w w' := by
  by_cases hg : GrtD (ts.length + cs.length)
  · rw [bool_eq12 hb (c := false) ⟨fun h => (Bool.false_ne_true h).elim, fun h => absurd hg h.1⟩]
    exact lfit12_a f hl hg w h1
  · obtain ⟨q, hq⟩ := ChkD.ex ts cs
    by_cases hn : q = 0
    · subst hn
      by_cases hf : f.Ok
      · rw [hb.2 ⟨hg, hq, hf⟩]
        exact lfit12_d f hl hg hq hf w h1
      · rw [bool_eq12 hb (c := false) ⟨fun h => (Bool.false_ne_true h).elim, fun h => absurd h.2.2 hf⟩]
        exact lfit12_c f hl hg hq hf w h1
    · rw [bool_eq12 hb (c := false) ⟨fun h => (Bool.false_ne_true h).elim, fun h => absurd (hq.uniq h.2.1) hn⟩]
      exact lfit12_b f hl hg hq hn w h1

end Go.Proofs.YtpccahdbienjeaaDoor
