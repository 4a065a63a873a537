/-
  IdealExact: what its walks share.
-/
import Derived.Test.YtpccahdbienjeaaIdAlive
import Derived.Test.YtpccahdbienjeaaIdExM
namespace Go.Proofs.Ytpccahdbienjeaa
open Go.RowKit

def rq34 (t : Tk) : Req := ⟨t.k, t.g, 3, 4, t.hg, t.hgb, by decide, by decide⟩
theorem tacc12 {ts : List Tk} {cs : List Cmd} {t : Tk} {us : List Tk} {ds : List Cmd} (h : PutT ts cs t us ds 0) (hc : ChkD ts cs 0) : Acc us ds (Frm.req (rq34 t)) := by
  obtain ⟨k, _, m, _⟩ := h.then12 hc
  exact ⟨k, Frm.req_ok (h.ok12 hc).2.1, (AccD.of1 (f := Frm.req (rq34 t)) (show (1 : Int) ≠ 2 by decide)).2 ((m t).2 (Or.inr rfl))⟩
theorem tno12 {ts : List Tk} {cs : List Cmd} {t : Tk} {us : List Tk} {ds : List Cmd} {q : Int} (h : PutT ts cs t us ds q) (hc : ChkD ts cs 0) (hq : q ≠ 0) : ¬ Acc ts cs (Frm.req (rq34 t)) :=
  fun a => (h.no12 hc hq).2 ((AccD.of1 (f := Frm.req (rq34 t)) (show (1 : Int) ≠ 2 by decide)).1 a.2.2)
theorem tf12 {ts : List Tk} {cs : List Cmd} {t : Tk} {us : List Tk} {ds : List Cmd} {f : Frm} (h : PutT ts cs t us ds 0) (hc : ChkD ts cs 0) (hf : f.Ok) : Acc us ds f ↔ AccD ts cs f ∨ (f.kd ≠ 2 ∧ f.r.tk = t) := by
  obtain ⟨k, rfl, m, _⟩ := h.then12 hc
  unfold Acc
  by_cases hk : f.kd = 2
  · rw [AccD.of2 hk, AccD.of2 hk]
    exact ⟨fun g => Or.inl g.2.2, fun g => ⟨k, hf, g.elim id fun n => absurd hk n.1⟩⟩
  · rw [AccD.of1 hk, AccD.of1 hk, m]
    exact ⟨fun g => g.2.2.elim Or.inl fun e => Or.inr ⟨hk, e⟩, fun g => ⟨k, hf, g.elim Or.inl fun n => Or.inr n.2⟩⟩
theorem cacc12 {ts : List Tk} {cs : List Cmd} {c : Cmd} {us : List Tk} {ds : List Cmd} (h : PutC ts cs c us ds 0) (hc : ChkD ts cs 0) : Acc us ds (Frm.cmd c) := by
  obtain ⟨k, _, m, _⟩ := h.then12 hc
  exact ⟨k, Frm.cmd_ok (h.ok12 hc).2.1, (AccD.of2 (f := Frm.cmd c) rfl).2 ((m c).2 (Or.inr rfl))⟩
theorem cno12 {ts : List Tk} {cs : List Cmd} {c : Cmd} {us : List Tk} {ds : List Cmd} {q : Int} (h : PutC ts cs c us ds q) (hc : ChkD ts cs 0) (hq : q ≠ 0) : ¬ Acc ts cs (Frm.cmd c) :=
  fun a => (h.no12 hc hq).2 ((AccD.of2 (f := Frm.cmd c) rfl).1 a.2.2)
theorem cf12 {ts : List Tk} {cs : List Cmd} {c : Cmd} {us : List Tk} {ds : List Cmd} {f : Frm} (h : PutC ts cs c us ds 0) (hc : ChkD ts cs 0) (hf : f.Ok) : Acc us ds f ↔ AccD ts cs f ∨ (f.kd = 2 ∧ f.c = c) := by
  obtain ⟨k, rfl, m, _⟩ := h.then12 hc
  unfold Acc
  by_cases hk : f.kd = 2
  · rw [AccD.of2 hk, AccD.of2 hk, m]
    exact ⟨fun g => g.2.2.elim Or.inl fun e => Or.inr ⟨hk, e⟩, fun g => ⟨k, hf, g.elim Or.inl fun n => Or.inr n.2⟩⟩
  · rw [AccD.of1 hk, AccD.of1 hk]
    exact ⟨fun g => Or.inl g.2.2, fun g => ⟨k, hf, g.elim id fun n => absurd n.1 hk⟩⟩
theorem eqc_b {c d : Cmd} {b : Bool} (h : b = true ↔ c = d) (W : World) : (Op.equalIn 10000 39 (.agg (ccell c).toArray) (.agg (ccell d).toArray)).run Try.prog W = .ok b W := by
  cases b with
  | true => exact eqc_t (h.1 rfl) W
  | false => exact eqc_f (fun e => Bool.false_ne_true (h.2 e)) W
theorem no_b12 {p : Prop} (h : ¬ p) : false = true ↔ p := ⟨fun e => (Bool.false_ne_true e).elim, fun e => absurd e h⟩

set_option maxRecDepth 100000 in
set_option maxHeartbeats 6400000 in
theorem exact12_n {v : Value} {ts : List Tk} {cs : List Cmd} (t : Tk) (c : Cmd) (f : Frm) (hl : ts.length + cs.length ≤ 1000000000000000) (hg : ¬ FitD ts cs f) (w : World) (h1 : IsD w v ts cs) : Calls Try.prog 6 #[v, .agg t.v.toArray, .agg (ccell c).toArray, .agg (mcell f).toArray] w fun e w' => e = .returned (.bool true) ∧ Below w.heap.size w w' := by
  have FT := fun (W : World) (x : Value) (h : IsD W x ts cs) => lfit12_is f hl (b := false) (no_b12 hg) W h; have AL := fun W => alive12_is W
  have HD := Lib.hid h1
  obtain ⟨v1, v2, rfl, g1, g2⟩ := id h1
  have SD := Lib.hid (size_id12 v1 v2)
  clear g1 g2 h1
  have SV := Lib.hid (size_tk t); have SC := Lib.hid (size_cmd c); have SF := Lib.hid (size_frm f)
  obtain ⟨V, hV⟩ : ∃ X, t.v = X := ⟨_, rfl⟩
  rw [hV] at SV ⊢
  clear hV
  obtain ⟨C, hC⟩ : ∃ X, ccell c = X := ⟨_, rfl⟩
  rw [hC] at SC ⊢
  clear hC
  obtain ⟨F, hF⟩ : ∃ X, mcell f = X := ⟨_, rfl⟩
  rw [hF] at SF FT ⊢
  clear hF
  clear hl hg
  go_enter Try.func6, Try.ntmps6
  go_upto_region 1 with fail
  refine F_gen (F := fun W => Code.wp _ _ _ _ W) (J := fun W => Box W (w.heap.size) ([v1, v2]) ∧ Box W (w.heap.size + 1) (V) ∧ Box W (w.heap.size + 2) (C) ∧ Box W (w.heap.size + 3) (F) ∧ Below w.heap.size w W) (And.intro (Box.alloc (Box.alloc (Box.alloc (Box.newc rfl rfl) _) _) _) (And.intro (Box.alloc (Box.alloc (Box.newc rfl (by simp)) _) _) (And.intro (Box.alloc (Box.newc rfl (by simp)) _) (And.intro (Box.newc rfl (by simp)) (by go_grown))))) ?_
  intro w0 ⟨e_d, e_t, e_c, e_f, hB0⟩
  have hs0 := hB0.size
  have x_d0 := e_d; clear e_d
  have x_t0 := e_t; clear e_t
  have x_c0 := e_c; clear e_c
  have x_f0 := e_f; clear e_f
  go_wp2_with (first
    | (refine wpList_load_box9 rfl _ _ rfl x_d0 rfl Try.underlying25 rfl SD.out ?_)
    | (refine wpList_load_box9 rfl _ _ rfl x_f0 rfl Try.underlying47 rfl SF.out ?_))
  refine (FT _ _ (HD.out.below hB0)).mono ?_
  rintro e w1 ⟨rfl, hb⟩
  have hB1 : Below w.heap.size w w1 := below_thru hB0 hb
  have hs1 := hB1.size
  have x_d1 : Box w1 (w.heap.size) ([v1, v2]) := Box.below x_d0 hb
  have x_t1 : Box w1 (w.heap.size + 1) (V) := Box.below x_t0 hb
  have x_c1 : Box w1 (w.heap.size + 2) (C) := Box.below x_c0 hb
  have x_f1 : Box w1 (w.heap.size + 3) (F) := Box.below x_f0 hb
  clear hB0 hs0 x_d0 x_t0 x_c0 x_f0
  clear hb
  go_wp2_with fail
  refine (AL _).mono ?_
  rintro e w2 ⟨rfl, hb⟩
  have hB2 : Below w.heap.size w w2 := below_thru hB1 hb
  have hs2 := hB2.size
  have x_d2 : Box w2 (w.heap.size) ([v1, v2]) := Box.below x_d1 hb
  have x_t2 : Box w2 (w.heap.size + 1) (V) := Box.below x_t1 hb
  have x_c2 : Box w2 (w.heap.size + 2) (C) := Box.below x_c1 hb
  have x_f2 : Box w2 (w.heap.size + 3) (F) := Box.below x_f1 hb
  clear hB1 hs1 x_d1 x_t1 x_c1 x_f1
  clear hb
  go_wp2_with fail
  go_returns
  exact ⟨rfl, hB2⟩


end Go.Proofs.Ytpccahdbienjeaa
