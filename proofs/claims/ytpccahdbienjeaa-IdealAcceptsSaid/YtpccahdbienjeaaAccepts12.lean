/-
  IdealAccepts, walked.
-/
import Derived.Test.YtpccahdbienjeaaIdLaw
namespace Go.Proofs.Ytpccahdbienjeaa
open Go.RowKit

set_option maxRecDepth 100000 in
set_option maxHeartbeats 6400000 in
theorem accepts12_a {v : Value} {ts : List Tk} {cs : List Cmd} (f : Frm) (hl : ts.length + cs.length ≤ 1000000000000000) (hg : GrtD (ts.length + cs.length)) (w : World) (h1 : IsD w v ts cs) : Calls Try.prog 5 #[v, .agg (mcell f).toArray] w fun e w' => e = .returned (.bool true) ∧ Below w.heap.size w w' := by
  have GT := fun (W : World) (u : Value) (h : IsD W u ts cs) => rgreat_is (b := true) W h hl (⟨fun _ => hg, fun _ => rfl⟩)
  have HD := Lib.hid h1
  obtain ⟨v1, v2, rfl, g1, g2⟩ := id h1
  have SD := Lib.hid (size_id12 v1 v2)
  clear g1 g2 h1
  have SV := Lib.hid (size_frm f)
  obtain ⟨V, hV⟩ : ∃ X, mcell f = X := ⟨_, rfl⟩; rw [hV] at SV ⊢; clear hV
  clear hl hg
  go_enter Try.func5, Try.ntmps5
  go_upto_region 1 with fail
  refine F_gen (F := fun W => Code.wp _ _ _ _ W) (J := fun W => Box W (w.heap.size) ([v1, v2]) ∧ Box W (w.heap.size + 1) (V) ∧ Below w.heap.size w W) (And.intro (Box.alloc (Box.newc rfl rfl) _) (And.intro (Box.newc rfl (by simp)) (by go_grown))) ?_
  intro w0 ⟨e_d, e_f, hB0⟩
  have hs0 := hB0.size
  have x_d0 := e_d; clear e_d
  have x_f0 := e_f; clear e_f
  go_wp2_with (refine wpList_load_box9 rfl _ _ rfl x_d0 rfl Try.underlying25 rfl SD.out ?_)
  refine (GT _ _ (HD.out.below hB0)).mono ?_
  rintro e w1 ⟨rfl, hb⟩
  have hB1 : Below w.heap.size w w1 := below_thru hB0 hb
  have hs1 := hB1.size
  have x_d1 : Box w1 (w.heap.size) ([v1, v2]) := Box.below x_d0 hb
  have x_f1 : Box w1 (w.heap.size + 1) (V) := Box.below x_f0 hb
  clear hB0 hs0 x_d0 x_f0
  clear hb
  go_wp2_with fail
  go_returns
  exact ⟨rfl, hB1⟩

set_option maxRecDepth 100000 in
set_option maxHeartbeats 6400000 in
theorem accepts12_b {v : Value} {ts : List Tk} {cs : List Cmd} (f : Frm) (hl : ts.length + cs.length ≤ 1000000000000000) (hg : ¬ GrtD (ts.length + cs.length)) (w : World) (h1 : IsD w v ts cs) : Calls Try.prog 5 #[v, .agg (mcell f).toArray] w fun e w' => e = .returned (.bool true) ∧ Below w.heap.size w w' := by
  have GT := fun (W : World) (u : Value) (h : IsD W u ts cs) => rgreat_is (b := false) W h hl (⟨fun h => (Bool.false_ne_true h).elim, fun h => absurd h hg⟩)
  obtain ⟨b, q, hx⟩ := AcpD.ex ts cs f
  have PA := fun (W : World) (u : Value) (h : IsD W u ts cs) => pacp_is f (not_grt hg) hx W h; have RA := fun (W : World) (u : Value) (h : IsD W u ts cs) => racp_is f (by have := not_grt hg; omega) hx W h; have b1 : (b == b) = true := beq_self_eq_true b; have b2 : (q == q) = true := beq_self_eq_true q
  have HD := Lib.hid h1
  obtain ⟨v1, v2, rfl, g1, g2⟩ := id h1
  have SD := Lib.hid (size_id12 v1 v2)
  clear g1 g2 h1
  have SV := Lib.hid (size_frm f)
  obtain ⟨V, hV⟩ : ∃ X, mcell f = X := ⟨_, rfl⟩; rw [hV] at SV PA RA ⊢; clear hV
  clear hl hg hx
  go_enter Try.func5, Try.ntmps5
  go_upto_region 1 with fail
  refine F_gen (F := fun W => Code.wp _ _ _ _ W) (J := fun W => Box W (w.heap.size) ([v1, v2]) ∧ Box W (w.heap.size + 1) (V) ∧ Below w.heap.size w W) (And.intro (Box.alloc (Box.newc rfl rfl) _) (And.intro (Box.newc rfl (by simp)) (by go_grown))) ?_
  intro w0 ⟨e_d, e_f, hB0⟩
  have hs0 := hB0.size
  have x_d0 := e_d; clear e_d
  have x_f0 := e_f; clear e_f
  go_wp2_with (refine wpList_load_box9 rfl _ _ rfl x_d0 rfl Try.underlying25 rfl SD.out ?_)
  refine (GT _ _ (HD.out.below hB0)).mono ?_
  rintro e w1 ⟨rfl, hb⟩
  have hB1 : Below w.heap.size w w1 := below_thru hB0 hb
  have hs1 := hB1.size
  have x_d1 : Box w1 (w.heap.size) ([v1, v2]) := Box.below x_d0 hb
  have x_f1 : Box w1 (w.heap.size + 1) (V) := Box.below x_f0 hb
  clear hB0 hs0 x_d0 x_f0
  clear hb
  go_wp2_with (first
    | (refine wpList_load_box9 rfl _ _ rfl x_d1 rfl Try.underlying25 rfl SD.out ?_)
    | (refine wpList_load_box9 rfl _ _ rfl x_f1 rfl Try.underlying47 rfl SV.out ?_))
  refine (PA _ _ (HD.out.below hB1)).mono ?_
  rintro e w2 ⟨rfl, hb⟩
  have hB2 : Below w.heap.size w w2 := below_thru hB1 hb
  have hs2 := hB2.size
  have x_d2 : Box w2 (w.heap.size) ([v1, v2]) := Box.below x_d1 hb
  have x_f2 : Box w2 (w.heap.size + 1) (V) := Box.below x_f1 hb
  clear hB1 hs1 x_d1 x_f1
  clear hb
  go_wp2_with (first
    | (refine wpList_load_box9 rfl _ _ rfl x_d2 rfl Try.underlying25 rfl SD.out ?_)
    | (refine wpList_load_box9 rfl _ _ rfl x_f2 rfl Try.underlying47 rfl SV.out ?_))
  refine (RA _ _ (HD.out.below hB2)).mono ?_
  rintro e w3 ⟨rfl, hb⟩
  have hB3 : Below w.heap.size w w3 := below_thru hB2 hb
  have hs3 := hB3.size
  have x_d3 : Box w3 (w.heap.size) ([v1, v2]) := Box.below x_d2 hb
  have x_f3 : Box w3 (w.heap.size + 1) (V) := Box.below x_f2 hb
  clear hB2 hs2 x_d2 x_f2
  clear hb
  go_wp2_with fail
  go_returns
  exact ⟨rfl, hB3⟩

theorem accepts12_is {v : Value} {ts : List Tk} {cs : List Cmd} (f : Frm) (hl : ts.length + cs.length ≤ 1000000000000000) (w : World) (h1 : IsD w v ts cs) : Calls Try.prog 5 #[v, .agg (mcell f).toArray] w fun e w' => e = .returned (.bool true) ∧ Below w.heap.size w w' := by
  by_cases hg : GrtD (ts.length + cs.length)
  · exact accepts12_a f hl hg w h1
  · exact accepts12_b f hl hg w h1

end Go.Proofs.Ytpccahdbienjeaa
