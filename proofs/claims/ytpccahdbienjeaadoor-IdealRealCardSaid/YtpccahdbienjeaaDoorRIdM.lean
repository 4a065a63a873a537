/-
  The reference of layer 12, walked: Message.
-/
import Derived.Test.YtpccahdbienjeaaDoorRIdB
import Derived.Test.YtpccahdbienjeaaDoorGX2
namespace Go.Proofs.YtpccahdbienjeaaDoor
open Go.RowKit

/-- What Message answers: is there one of the same message? -/
def MesD (ts : List Tk) (cs : List Cmd) (f : Frm) : Prop := (f.kd = 2 → ∃ u ∈ cs, u.bare = f.c.bare) ∧ (f.kd ≠ 2 → ∃ u ∈ ts, u.bare = f.r.tk.bare)
theorem Fnd.pos_iff {α : Type} {p : α → Prop} {l : List α} {i : Int} (h : Fnd p l i) : decide (0 ≤ i) = true ↔ ∃ x ∈ l, p x := by
  rw [decide_eq_true_iff]
  constructor
  · intro hi
    obtain ⟨n, x, _, hx, px⟩ := h.pos hi
    exact ⟨x, List.mem_of_getElem? hx, px⟩
  · rintro ⟨x, hx, px⟩
    exact Int.not_lt.1 fun hi => (h.neg_iff.1 hi) x hx px
set_option maxRecDepth 100000 in
set_option maxHeartbeats 6400000 in
theorem rmes_t {v : Value} {ts : List Tk} {cs : List Cmd} (f : Frm) (h0 : f.kd = 1) {i : Int} (hF : Fnd (fun u => u.bare = f.r.tk.bare) ts i) {b : Bool} (d1 : decide ((0 : Int) ≤ i) = b) (w : World) (h1 : IsD w v ts cs) : Calls Tryd.prog 10 #[v, .agg (mcell f).toArray] w fun e w' => e = .returned (.bool b) ∧ Below w.heap.size w w' := by
  obtain ⟨v1, v2, rfl, g1, g2⟩ := id h1
  obtain ⟨a1, c1, rfl, hr1⟩ := id g1; obtain ⟨a2, c2, rfl, hr2⟩ := id g2
  have m1 := hr1.most; have r1 := hr1.room; have m2 := hr2.most; have r2 := hr2.room; have H1 := Lib.hid g1; have H2 := Lib.hid g2
  clear hr1 hr2 g1 g2 h1
  have AT := fun (W : World) (v : Value) (h : IsR LT W v ts) => rtat_is f.r.tk W h hF
  have v0 : (mcell f)[0]? = some (.int .u8 1) := by rw [← h0]; rfl
  have SV := Lib.hid (size_frm f); have SP := Lib.hid (size_tk f.r.tk)
  have DP : Hid ((mcell f).drop 1 = f.r.tk.v ++ (.int .u16 f.r.ep :: .int .u32 f.r.co :: ccell f.c)) := Lib.hid (mcell_t f)
  obtain ⟨R, hR⟩ : ∃ X, (Value.int .u16 f.r.ep :: .int .u32 f.r.co :: ccell f.c) = X := ⟨_, rfl⟩
  rw [hR] at DP; clear hR
  obtain ⟨PV, hPV⟩ : ∃ X, f.r.tk.v = X := ⟨_, rfl⟩; rw [hPV] at AT SP DP; clear hPV
  obtain ⟨V, hV⟩ : ∃ X, mcell f = X := ⟨_, rfl⟩; rw [hV] at SV v0 DP ⊢; clear hV h0 hF
  go_enter Tryd.func10, Tryd.ntmps10
  go_upto_region 1 with fail
  refine F_gen (F := fun W => Code.wp _ _ _ _ W) (J := fun W => Box W (w.heap.size) ([.slice a1 ts.length c1, .slice a2 cs.length c2]) ∧ Box W (w.heap.size + 1) (V) ∧ Below w.heap.size w W) (And.intro (Box.alloc (Box.newc rfl rfl) _) (And.intro (Box.newc rfl (by simp)) (by go_grown))) ?_
  intro w0 ⟨e_d, e_f, hB0⟩
  have hs0 := hB0.size
  have x_d0 := e_d; clear e_d
  have x_f0 := e_f; clear e_f
  have ca := (x_f0).c 0 _ v0
  have za := (x_f0).lt
  have cb := (x_d0).c 0 _ rfl
  have zb := (x_d0).lt
  go_wp2_with (refine wpList_load_rangew rfl _ _ rfl (Box.rangeMid x_f0 1 (PV) (R) DP.out) rfl Tryd.underlying31 rfl SP.out ?_)
  refine (AT _ _ (H1.out.below hB0)).mono ?_
  rintro e w1 ⟨rfl, hb⟩
  clear ca za cb zb
  have hB1 : Below w.heap.size w w1 := below_thru hB0 hb
  have hs1 := hB1.size
  have x_d1 : Box w1 (w.heap.size) ([.slice a1 ts.length c1, .slice a2 cs.length c2]) := Box.below x_d0 hb
  have x_f1 : Box w1 (w.heap.size + 1) (V) := Box.below x_f0 hb
  clear hB0 hs0 x_d0 x_f0
  clear hb
  go_wp2_with fail
  go_returns
  exact ⟨rfl, hB1⟩

set_option maxRecDepth 100000 in
set_option maxHeartbeats 6400000 in
theorem rmes_c {v : Value} {ts : List Tk} {cs : List Cmd} (f : Frm) (h0 : f.kd = 2) {i : Int} (hF : Fnd (fun u => u.bare = f.c.bare) cs i) {b : Bool} (d1 : decide ((0 : Int) ≤ i) = b) (w : World) (h1 : IsD w v ts cs) : Calls Tryd.prog 10 #[v, .agg (mcell f).toArray] w fun e w' => e = .returned (.bool b) ∧ Below w.heap.size w w' := by
  obtain ⟨v1, v2, rfl, g1, g2⟩ := id h1
  obtain ⟨a1, c1, rfl, hr1⟩ := id g1; obtain ⟨a2, c2, rfl, hr2⟩ := id g2
  have m1 := hr1.most; have r1 := hr1.room; have m2 := hr2.most; have r2 := hr2.room; have H1 := Lib.hid g1; have H2 := Lib.hid g2
  clear hr1 hr2 g1 g2 h1
  have AT := fun (W : World) (v : Value) (h : IsR LC W v cs) => rcat_is f.c W h hF
  have v0 : (mcell f)[0]? = some (.int .u8 2) := by rw [← h0]; rfl
  have SV := Lib.hid (size_frm f); have SP := Lib.hid (size_cmd f.c)
  have DP := Lib.hid (mcell_c f)
  obtain ⟨PV, hPV⟩ : ∃ X, ccell f.c = X := ⟨_, rfl⟩; rw [hPV] at AT SP DP; clear hPV
  obtain ⟨V, hV⟩ : ∃ X, mcell f = X := ⟨_, rfl⟩; rw [hV] at SV v0 DP ⊢; clear hV h0 hF
  go_enter Tryd.func10, Tryd.ntmps10
  go_upto_region 1 with fail
  refine F_gen (F := fun W => Code.wp _ _ _ _ W) (J := fun W => Box W (w.heap.size) ([.slice a1 ts.length c1, .slice a2 cs.length c2]) ∧ Box W (w.heap.size + 1) (V) ∧ Below w.heap.size w W) (And.intro (Box.alloc (Box.newc rfl rfl) _) (And.intro (Box.newc rfl (by simp)) (by go_grown))) ?_
  intro w0 ⟨e_d, e_f, hB0⟩
  have hs0 := hB0.size
  have x_d0 := e_d; clear e_d
  have x_f0 := e_f; clear e_f
  have ca := (x_f0).c 0 _ v0
  have za := (x_f0).lt
  have cb := (x_d0).c 1 _ rfl
  have zb := (x_d0).lt
  go_wp2_with (refine wpList_load_rangew rfl _ _ rfl (Box.rangeMid x_f0 39 (PV) ([]) DP.out) rfl Tryd.underlying39 rfl SP.out ?_)
  refine (AT _ _ (H2.out.below hB0)).mono ?_
  rintro e w1 ⟨rfl, hb⟩
  clear ca za cb zb
  have hB1 : Below w.heap.size w w1 := below_thru hB0 hb
  have hs1 := hB1.size
  have x_d1 : Box w1 (w.heap.size) ([.slice a1 ts.length c1, .slice a2 cs.length c2]) := Box.below x_d0 hb
  have x_f1 : Box w1 (w.heap.size + 1) (V) := Box.below x_f0 hb
  clear hB0 hs0 x_d0 x_f0
  clear hb
  go_wp2_with fail
  go_returns
  exact ⟨rfl, hB1⟩

theorem rmes_is {v : Value} {ts : List Tk} {cs : List Cmd} (f : Frm) (hk : f.kd = 1 ∨ f.kd = 2) {b : Bool} (hb : b = true ↔ MesD ts cs f) (w : World) (h1 : IsD w v ts cs) : Calls Tryd.prog 10 #[v, .agg (mcell f).toArray] w fun e w' => e = .returned (.bool b) ∧ Below w.heap.size w w' := by
  rcases hk with h0 | h0
  · obtain ⟨i, hF⟩ := Fnd.ex (fun u : Tk => u.bare = f.r.tk.bare) ts
    refine rmes_t f h0 hF (bool_eq12 hF.pos_iff (hb.trans ⟨fun h => h.2 (by omega), fun h => ⟨fun g => by omega, fun _ => h⟩⟩)) w h1
  · obtain ⟨i, hF⟩ := Fnd.ex (fun u : Cmd => u.bare = f.c.bare) cs
    refine rmes_c f h0 hF (bool_eq12 hF.pos_iff (hb.trans ⟨fun h => h.1 h0, fun h => ⟨fun _ => h, fun g => absurd h0 g⟩⟩)) w h1

end Go.Proofs.YtpccahdbienjeaaDoor
