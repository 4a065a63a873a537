/-
  The reference of layer 12, walked: Has, Accepts.
-/
import Derived.Test.YtpccahdbienjeaaRIdC
import Derived.Test.YtpccahdbienjeaaRIdD
import Derived.Test.YtpccahdbienjeaaGQ7
import Derived.Test.YtpccahdbienjeaaGQ8
namespace Go.Proofs.Ytpccahdbienjeaa
open Go.RowKit

/-- What is accepted. -/
def AccD (ts : List Tk) (cs : List Cmd) (f : Frm) : Prop := (f.kd = 2 → f.c ∈ cs) ∧ (f.kd ≠ 2 → f.r.tk ∈ ts)
theorem AccD.of2 {ts : List Tk} {cs : List Cmd} {f : Frm} (h : f.kd = 2) : AccD ts cs f ↔ f.c ∈ cs := ⟨fun g => g.1 h, fun g => ⟨fun _ => g, fun n => absurd h n⟩⟩
theorem AccD.of1 {ts : List Tk} {cs : List Cmd} {f : Frm} (h : f.kd ≠ 2) : AccD ts cs f ↔ f.r.tk ∈ ts := ⟨fun g => g.2 h, fun g => ⟨fun n => absurd n h, fun _ => g⟩⟩
theorem fnd_mem {α β : Type} {f : α → β} {l : List α} (hd : Dst f l l.length) {x : α} {i : Int} (h : Fnd (fun y => f y = f x) l i) : x ∈ l ↔ ∃ n : Nat, i = n ∧ l[n]? = some x := by
  constructor
  · intro hx
    obtain ⟨m, hm⟩ := List.getElem?_of_mem hx
    rcases h with ⟨n, rfl, ⟨y, hy, py⟩, hn⟩ | ⟨rfl, h⟩
    · rcases Nat.lt_trichotomy n m with q | q | q
      · exact absurd py (hd n m y x q (List.getElem?_eq_some_iff.1 hm).1 hy hm)
      · subst q
        exact ⟨n, rfl, hm⟩
      · exact absurd rfl (hn m x q hm)
    · exact absurd rfl (h m x hm)
  · rintro ⟨n, _, h⟩
    exact List.mem_of_getElem? h
set_option maxRecDepth 100000 in
set_option maxHeartbeats 6400000 in
theorem rhas_tn {v : Value} {ts : List Tk} {cs : List Cmd} (f : Frm) (h0 : f.kd = 1) {i : Int} (hF : Fnd (fun u => u.bare = f.r.tk.bare) ts i) (hi : i < 0) (w : World) (h1 : IsD w v ts cs) : Calls Try.prog 38 #[v, .agg (mcell f).toArray] w fun e w' => e = .returned (.bool false) ∧ Below w.heap.size w w' := by
  obtain ⟨v1, v2, rfl, g1, g2⟩ := id h1
  obtain ⟨a1, c1, rfl, hr1⟩ := id g1; obtain ⟨a2, c2, rfl, hr2⟩ := id g2
  have m1 := hr1.most; have r1 := hr1.room; have m2 := hr2.most; have r2 := hr2.room; have H1 := Lib.hid g1; have H2 := Lib.hid g2
  clear hr1 hr2 g1 g2 h1
  have AT := fun (W : World) (v : Value) (h : IsR LT W v ts) => rtat_is f.r.tk W h hF
  have v0 : (mcell f)[0]? = some (.int .u8 1) := by rw [← h0]; rfl
  have SV := Lib.hid (size_frm f); have SP := Lib.hid (size_tk f.r.tk)
  have DP : Hid ((mcell f).drop 1 = f.r.tk.v ++ (.int .u16 f.r.ep :: .int .u32 f.r.co :: ccell f.c)) := Lib.hid (mcell_t f)
  obtain ⟨R, hR⟩ : ∃ X, (Value.int .u16 f.r.ep :: .int .u32 f.r.co :: ccell f.c) = X := ⟨_, rfl⟩
  rw [hR] at DP; clear hR
  have d1 : decide ((0 : Int) ≤ i) = false := decide_eq_false (by omega)
  obtain ⟨PV, hPV⟩ : ∃ X, f.r.tk.v = X := ⟨_, rfl⟩; rw [hPV] at AT SP DP; clear hPV
  obtain ⟨V, hV⟩ : ∃ X, mcell f = X := ⟨_, rfl⟩; rw [hV] at SV v0 DP ⊢; clear hV h0 hF hi
  go_enter Try.func38, Try.ntmps38
  go_upto_region 1 with fail
  refine F_gen (F := fun W => Code.wp _ _ _ _ W) (J := fun W => Box W (w.heap.size) ([.slice a1 ts.length c1, .slice a2 cs.length c2]) ∧ Box W (w.heap.size + 1) (V) ∧ Below w.heap.size w W) (And.intro (Box.alloc (Box.newc rfl rfl) _) (And.intro (Box.newc rfl (by simp)) (by go_grown))) ?_
  intro w0 ⟨e_d, e_f, hB0⟩
  have hs0 := hB0.size
  have x_d0 := e_d; clear e_d
  have x_f0 := e_f; clear e_f
  have ca := (x_f0).c 0 _ v0
  have za := (x_f0).lt
  have cb := (x_d0).c 0 _ rfl
  have zb := (x_d0).lt
  go_wp2_with (refine wpList_load_rangew rfl _ _ rfl (Box.rangeMid x_f0 1 (PV) (R) DP.out) rfl Try.underlying34 rfl SP.out ?_)
  refine (AT _ _ (H1.out.below hB0)).mono ?_
  rintro e w1 ⟨rfl, hb⟩
  clear ca za cb zb
  have hB1 : Below w.heap.size w w1 := below_thru hB0 hb
  have hs1 := hB1.size
  have x_d1 : Box w1 (w.heap.size) ([.slice a1 ts.length c1, .slice a2 cs.length c2]) := Box.below x_d0 hb
  have x_f1 : Box w1 (w.heap.size + 1) (V) := Box.below x_f0 hb
  clear hB0 hs0 x_d0 x_f0
  clear hb
  go_upto_region 5 with fail
  refine wp_region_held_drew (S := fun W => Box W (w.heap.size) ([.slice a1 ts.length c1, .slice a2 cs.length c2]) ∧ Box W (w.heap.size + 1) (V)) (by kernel_rfl) (And.intro (x_d1).drew (x_f1).drew) (fun _ => ?_)
  refine F_drew (F := fun W => wpAnyH _ _ _ _ _ _ _ _ W) ?_
  intro Ws0 hbs0
  clear hs1
  have x_d_s0 : Box Ws0 (w.heap.size) ([.slice a1 ts.length c1, .slice a2 cs.length c2]) := Box.below x_d1 hbs0
  have x_f_s0 : Box Ws0 (w.heap.size + 1) (V) := Box.below x_f1 hbs0
  have Bs0 := below_thru hB1 hbs0
  clear x_d1 x_f1 hB1 hbs0
  refine takeH 0 33 (v := ?vs0_1) rfl (by rfl) (by kernel_rfl) (by kernel_rfl) (by kernel_rfl) (fun _ _ _ h => h) (Or.inl ⟨by rfl, ?_⟩) ((And.intro x_d_s0 x_f_s0)) ?_
  rotate_left
  · intro wq hSq
    go_simp
    exact rfl
  try simp only [Act.put, List.setIfInBounds_toArray, List.set_cons_zero, List.set_cons_succ]
  refine takeH 1 34 (v := ?vs1_2) rfl (by rfl) (by kernel_rfl) (by kernel_rfl) (by kernel_rfl) (fun _ _ _ h => h) (Or.inl ⟨by rfl, ?_⟩) ((And.intro x_d_s0 x_f_s0)) ?_
  rotate_left
  · intro wq hSq
    go_simp
    exact rfl
  try simp only [Act.put, List.setIfInBounds_toArray, List.set_cons_zero, List.set_cons_succ]
  refine takeH 2 35 (v := ?vs2_3) rfl (by rfl) (by kernel_rfl) (by kernel_rfl) (by kernel_rfl) (fun _ _ _ h => h) (Or.inl ⟨by rfl, ?_⟩) ((And.intro x_d_s0 x_f_s0)) ?_
  rotate_left
  · intro wq hSq
    go_simp
    exact rfl
  try simp only [Act.put, List.setIfInBounds_toArray, List.set_cons_zero, List.set_cons_succ]
  refine takeH 3 36 (v := undef) rfl (by rfl) (by kernel_rfl) (by kernel_rfl) (by kernel_rfl) (fun _ _ _ h => h) (Or.inr ⟨by rfl, rfl⟩) ((And.intro x_d_s0 x_f_s0)) ?_
  try simp only [Act.put, List.setIfInBounds_toArray, List.set_cons_zero, List.set_cons_succ]
  refine takeH 4 37 (v := undef) rfl (by rfl) (by kernel_rfl) (by kernel_rfl) (by kernel_rfl) (fun _ _ _ h => h) (Or.inr ⟨by rfl, rfl⟩) ((And.intro x_d_s0 x_f_s0)) ?_
  try simp only [Act.put, List.setIfInBounds_toArray, List.set_cons_zero, List.set_cons_succ]
  refine takeH 5 38 (v := undef) rfl (by rfl) (by kernel_rfl) (by kernel_rfl) (by kernel_rfl) (fun _ _ _ h => h) (Or.inr ⟨by rfl, rfl⟩) ((And.intro x_d_s0 x_f_s0)) ?_
  try simp only [Act.put, List.setIfInBounds_toArray, List.set_cons_zero, List.set_cons_succ]
  refine takeH 6 39 (v := undef) rfl (by rfl) (by kernel_rfl) (by kernel_rfl) (by kernel_rfl) (fun _ _ _ h => h) (Or.inr ⟨by rfl, rfl⟩) ((And.intro x_d_s0 x_f_s0)) ?_
  try simp only [Act.put, List.setIfInBounds_toArray, List.set_cons_zero, List.set_cons_succ]
  refine takeH 7 40 (v := undef) rfl (by rfl) (by kernel_rfl) (by kernel_rfl) (by kernel_rfl) (fun _ _ _ h => h) (Or.inr ⟨by rfl, rfl⟩) ((And.intro x_d_s0 x_f_s0)) ?_
  try simp only [Act.put, List.setIfInBounds_toArray, List.set_cons_zero, List.set_cons_succ]
  refine takeH 8 41 (v := undef) rfl (by rfl) (by kernel_rfl) (by kernel_rfl) (by kernel_rfl) (fun _ _ _ h => h) (Or.inr ⟨by rfl, rfl⟩) ((And.intro x_d_s0 x_f_s0)) ?_
  try simp only [Act.put, List.setIfInBounds_toArray, List.set_cons_zero, List.set_cons_succ]
  refine takeH 9 42 (v := undef) rfl (by rfl) (by kernel_rfl) (by kernel_rfl) (by kernel_rfl) (fun _ _ _ h => h) (Or.inr ⟨by rfl, rfl⟩) ((And.intro x_d_s0 x_f_s0)) ?_
  try simp only [Act.put, List.setIfInBounds_toArray, List.set_cons_zero, List.set_cons_succ]
  refine takeH 10 43 (v := undef) rfl (by rfl) (by kernel_rfl) (by kernel_rfl) (by kernel_rfl) (fun _ _ _ h => h) (Or.inr ⟨by rfl, rfl⟩) ((And.intro x_d_s0 x_f_s0)) ?_
  try simp only [Act.put, List.setIfInBounds_toArray, List.set_cons_zero, List.set_cons_succ]
  refine takeH 11 44 (v := undef) rfl (by rfl) (by kernel_rfl) (by kernel_rfl) (by kernel_rfl) (fun _ _ _ h => h) (Or.inr ⟨by rfl, rfl⟩) ((And.intro x_d_s0 x_f_s0)) ?_
  try simp only [Act.put, List.setIfInBounds_toArray, List.set_cons_zero, List.set_cons_succ]
  refine takeH 12 45 (v := ?vs12_4) rfl (by rfl) (by kernel_rfl) (by kernel_rfl) (by kernel_rfl) (fun _ _ _ h => h) (Or.inl ⟨by rfl, ?_⟩) ((And.intro x_d_s0 x_f_s0)) ?_
  rotate_left
  · intro wq hSq
    go_simp
    exact rfl
  try simp only [Act.put, List.setIfInBounds_toArray, List.set_cons_zero, List.set_cons_succ]
  refine takeH 13 4 (v := ?vs13_5) rfl (by rfl) (by kernel_rfl) (by kernel_rfl) (by kernel_rfl) (fun _ _ _ h => h) (Or.inl ⟨by rfl, ?_⟩) ((And.intro x_d_s0 x_f_s0)) ?_
  rotate_left
  · intro wq hSq
    go_simp
    exact rfl
  try simp only [Act.put, List.setIfInBounds_toArray, List.set_cons_zero, List.set_cons_succ]
  refine wpAnyH_done (by kernel_rfl) ?_ _
  go_wp2_with fail
  go_returns
  exact ⟨rfl, Bs0⟩

set_option maxRecDepth 100000 in
set_option maxHeartbeats 6400000 in
theorem rhas_ts {v : Value} {ts : List Tk} {cs : List Cmd} (f : Frm) (h0 : f.kd = 1) {i : Int} (hF : Fnd (fun u => u.bare = f.r.tk.bare) ts i) {n : Nat} {y : Tk} {b : Bool} (hi : i = n) (hy : ts[n]? = some y) (hb : b = true ↔ y = f.r.tk) (w : World) (h1 : IsD w v ts cs) : Calls Try.prog 38 #[v, .agg (mcell f).toArray] w fun e w' => e = .returned (.bool b) ∧ Below w.heap.size w w' := by
  obtain ⟨v1, v2, rfl, g1, g2⟩ := id h1
  obtain ⟨a1, c1, rfl, hr1⟩ := id g1; obtain ⟨a2, c2, rfl, hr2⟩ := id g2
  have m1 := hr1.most; have r1 := hr1.room; have m2 := hr2.most; have r2 := hr2.room; have H1 := Lib.hid g1; have H2 := Lib.hid g2
  clear hr1 hr2 g1 g2 h1
  have AT := fun (W : World) (v : Value) (h : IsR LT W v ts) => rtat_is f.r.tk W h hF
  have v0 : (mcell f)[0]? = some (.int .u8 1) := by rw [← h0]; rfl
  have SV := Lib.hid (size_frm f); have SP := Lib.hid (size_tk f.r.tk)
  have DP : Hid ((mcell f).drop 1 = f.r.tk.v ++ (.int .u16 f.r.ep :: .int .u32 f.r.co :: ccell f.c)) := Lib.hid (mcell_t f)
  obtain ⟨R, hR⟩ : ∃ X, (Value.int .u16 f.r.ep :: .int .u32 f.r.co :: ccell f.c) = X := ⟨_, rfl⟩
  rw [hR] at DP; clear hR
  have hn := (List.getElem?_eq_some_iff.1 hy).1; subst hi
  obtain ⟨b1, o1, rfl, x1⟩ := H1.out.get 36 rfl hy
  have d1 : decide ((0 : Int) ≤ (n : Int)) = true := decide_eq_true (by omega); have d2 : decide ((n : Int) < (ts.length : Int)) = true := decide_eq_true (by omega); have i0 : (0 : Int) ≤ (n : Int) := (by omega); have i1 : (n : Int) < (ts.length : Int) := (by omega)
  have EQ := fun W => eq_tk hb W; have SY := Lib.hid (size_tk y)
  obtain ⟨VY, hVY⟩ : ∃ X, y.v = X := ⟨_, rfl⟩; rw [hVY] at EQ SY; rw [show LT.f y = VY from hVY] at x1; clear hVY
  obtain ⟨PV, hPV⟩ : ∃ X, f.r.tk.v = X := ⟨_, rfl⟩; rw [hPV] at AT SP DP EQ; clear hPV
  obtain ⟨V, hV⟩ : ∃ X, mcell f = X := ⟨_, rfl⟩; rw [hV] at SV v0 DP ⊢; clear hV h0 hF hb hy hn
  go_enter Try.func38, Try.ntmps38
  go_upto_region 1 with fail
  refine F_gen (F := fun W => Code.wp _ _ _ _ W) (J := fun W => Box W (w.heap.size) ([.slice (some ⟨b1, o1, none⟩) ts.length c1, .slice a2 cs.length c2]) ∧ Box W (w.heap.size + 1) (V) ∧ Below w.heap.size w W) (And.intro (Box.alloc (Box.newc rfl rfl) _) (And.intro (Box.newc rfl (by simp)) (by go_grown))) ?_
  intro w0 ⟨e_d, e_f, hB0⟩
  have hs0 := hB0.size
  have x_d0 := e_d; clear e_d
  have x_f0 := e_f; clear e_f
  have x1 := range_below x1 hB0
  have ca := (x_f0).c 0 _ v0
  have za := (x_f0).lt
  have cb := (x_d0).c 0 _ rfl
  have zb := (x_d0).lt
  go_wp2_with (refine wpList_load_rangew rfl _ _ rfl (Box.rangeMid x_f0 1 (PV) (R) DP.out) rfl Try.underlying34 rfl SP.out ?_)
  refine (AT _ _ (H1.out.below hB0)).mono ?_
  rintro e w1 ⟨rfl, hb⟩
  clear ca za cb zb
  have x12 := range_below x1 hb; clear x1; have x1 := x12; clear x12
  have hB1 : Below w.heap.size w w1 := below_thru hB0 hb
  have hs1 := hB1.size
  have x_d1 : Box w1 (w.heap.size) ([.slice (some ⟨b1, o1, none⟩) ts.length c1, .slice a2 cs.length c2]) := Box.below x_d0 hb
  have x_f1 : Box w1 (w.heap.size + 1) (V) := Box.below x_f0 hb
  clear hB0 hs0 x_d0 x_f0
  clear hb
  go_upto_region 5 with fail
  refine wp_region_held_drew (S := fun W => Box W (w.heap.size) ([.slice (some ⟨b1, o1, none⟩) ts.length c1, .slice a2 cs.length c2]) ∧ Box W (w.heap.size + 1) (V) ∧ W.rangeAt (b1) (o1 + n * 36) (VY)) (by kernel_rfl) (And.intro (x_d1).drew (And.intro (x_f1).drew x1)) (fun _ => ?_)
  refine F_drew (F := fun W => wpAnyH _ _ _ _ _ _ _ _ W) ?_
  intro Ws0 hbs0
  clear hs1
  have x_d_s0 : Box Ws0 (w.heap.size) ([.slice (some ⟨b1, o1, none⟩) ts.length c1, .slice a2 cs.length c2]) := Box.below x_d1 hbs0
  have x_f_s0 : Box Ws0 (w.heap.size + 1) (V) := Box.below x_f1 hbs0
  have c_g_s0 := range_below x1 hbs0
  have Bs0 := below_thru hB1 hbs0
  clear x_d1 x_f1 x1 hB1 hbs0
  refine takeH 0 33 (v := ?vs0_1) rfl (by rfl) (by kernel_rfl) (by kernel_rfl) (by kernel_rfl) (fun _ _ _ h => h) (Or.inl ⟨by rfl, ?_⟩) ((And.intro x_d_s0 (And.intro x_f_s0 c_g_s0))) ?_
  rotate_left
  · intro wq hSq
    go_simp
    exact rfl
  try simp only [Act.put, List.setIfInBounds_toArray, List.set_cons_zero, List.set_cons_succ]
  refine takeH 1 34 (v := ?vs1_2) rfl (by rfl) (by kernel_rfl) (by kernel_rfl) (by kernel_rfl) (fun _ _ _ h => h) (Or.inl ⟨by rfl, ?_⟩) ((And.intro x_d_s0 (And.intro x_f_s0 c_g_s0))) ?_
  rotate_left
  · intro wq hSq
    go_simp
    exact rfl
  try simp only [Act.put, List.setIfInBounds_toArray, List.set_cons_zero, List.set_cons_succ]
  refine takeH 2 35 (v := ?vs2_3) rfl (by rfl) (by kernel_rfl) (by kernel_rfl) (by kernel_rfl) (fun _ _ _ h => h) (Or.inl ⟨by rfl, ?_⟩) ((And.intro x_d_s0 (And.intro x_f_s0 c_g_s0))) ?_
  rotate_left
  · intro wq hSq
    go_simp
    exact rfl
  try simp only [Act.put, List.setIfInBounds_toArray, List.set_cons_zero, List.set_cons_succ]
  refine takeH 3 36 (v := ?vs3_4) rfl (by rfl) (by kernel_rfl) (by kernel_rfl) (by kernel_rfl) (fun _ _ _ h => h) (Or.inl ⟨by rfl, ?_⟩) ((And.intro x_d_s0 (And.intro x_f_s0 c_g_s0))) ?_
  rotate_left
  · intro wq hSq
    go_simp
    exact rfl
  try simp only [Act.put, List.setIfInBounds_toArray, List.set_cons_zero, List.set_cons_succ]
  refine takeH 4 37 (v := ?vs4_5) rfl (by rfl) (by kernel_rfl) (by kernel_rfl) (by kernel_rfl) (fun _ _ _ h => h) (Or.inl ⟨by rfl, ?_⟩) ((And.intro x_d_s0 (And.intro x_f_s0 c_g_s0))) ?_
  rotate_left
  · intro wq hSq
    have cq := (hSq.1).c 0 _ rfl
    have zq := lt_of_cell cq
    go_simp
    exact rfl
  try simp only [Act.put, List.setIfInBounds_toArray, List.set_cons_zero, List.set_cons_succ]
  refine takeH 5 38 (v := ?vs5_6) rfl (by rfl) (by kernel_rfl) (by kernel_rfl) (by kernel_rfl) (fun _ _ _ h => h) (Or.inl ⟨by rfl, ?_⟩) ((And.intro x_d_s0 (And.intro x_f_s0 c_g_s0))) ?_
  rotate_left
  · intro wq hSq
    go_simp
    exact rfl
  try simp only [Act.put, List.setIfInBounds_toArray, List.set_cons_zero, List.set_cons_succ]
  refine takeH 6 39 (v := ?vs6_7) rfl (by rfl) (by kernel_rfl) (by kernel_rfl) (by kernel_rfl) (fun _ _ _ h => h) (Or.inl ⟨by rfl, ?_⟩) ((And.intro x_d_s0 (And.intro x_f_s0 c_g_s0))) ?_
  rotate_left
  · intro wq hSq
    go_simp
    exact rfl
  try simp only [Act.put, List.setIfInBounds_toArray, List.set_cons_zero, List.set_cons_succ]
  refine takeH 8 41 (v := ?vs8_8) rfl (by rfl) (by kernel_rfl) (by kernel_rfl) (by kernel_rfl) (fun _ _ _ h => h) (Or.inl ⟨by rfl, ?_⟩) ((And.intro x_d_s0 (And.intro x_f_s0 c_g_s0))) ?_
  rotate_left
  · intro wq hSq
    go_simp
    exact rfl
  try simp only [Act.put, List.setIfInBounds_toArray, List.set_cons_zero, List.set_cons_succ]
  refine takeH 9 42 (v := ?vs9_9) rfl (by rfl) (by kernel_rfl) (by kernel_rfl) (by kernel_rfl) (fun _ _ _ h => h) (Or.inl ⟨by rfl, ?_⟩) ((And.intro x_d_s0 (And.intro x_f_s0 c_g_s0))) ?_
  rotate_left
  · intro wq hSq
    go_simp
    exact rfl
  try simp only [Act.put, List.setIfInBounds_toArray, List.set_cons_zero, List.set_cons_succ]
  refine takeH 7 40 (v := .agg (VY).toArray) rfl (by rfl) (by kernel_rfl) (by kernel_rfl) (by kernel_rfl) (fun _ _ _ h => h) (yieldsIf_load_mid (by rfl) _ _ rfl _ _ rfl (VY) _ (fun wq hq => hq.2.2) Try.underlying34 rfl SY.out) ((And.intro x_d_s0 (And.intro x_f_s0 c_g_s0))) ?_
  try simp only [Act.put, List.setIfInBounds_toArray, List.set_cons_zero, List.set_cons_succ]
  refine takeH 10 43 (v := .agg (PV).toArray) rfl (by rfl) (by kernel_rfl) (by kernel_rfl) (by kernel_rfl) (fun _ _ _ h => h) (yieldsIf_load_mid (by rfl) _ _ rfl _ _ rfl (PV) _ (fun wq hq => Box.rangeMid (hq.2.1) 1 (PV) (R) DP.out) Try.underlying34 rfl SP.out) ((And.intro x_d_s0 (And.intro x_f_s0 c_g_s0))) ?_
  try simp only [Act.put, List.setIfInBounds_toArray, List.set_cons_zero, List.set_cons_succ]
  refine takeH 11 44 (v := ?vs11_10) rfl (by rfl) (by kernel_rfl) (by kernel_rfl) (by kernel_rfl) (fun _ _ _ h => h) (Or.inl ⟨by rfl, ?_⟩) ((And.intro x_d_s0 (And.intro x_f_s0 c_g_s0))) ?_
  rotate_left
  · intro wq hSq
    go_simp
    exact rfl
  try simp only [Act.put, List.setIfInBounds_toArray, List.set_cons_zero, List.set_cons_succ]
  refine takeH 12 45 (v := ?vs12_11) rfl (by rfl) (by kernel_rfl) (by kernel_rfl) (by kernel_rfl) (fun _ _ _ h => h) (Or.inl ⟨by rfl, ?_⟩) ((And.intro x_d_s0 (And.intro x_f_s0 c_g_s0))) ?_
  rotate_left
  · intro wq hSq
    go_simp
    exact rfl
  try simp only [Act.put, List.setIfInBounds_toArray, List.set_cons_zero, List.set_cons_succ]
  refine takeH 13 4 (v := ?vs13_12) rfl (by rfl) (by kernel_rfl) (by kernel_rfl) (by kernel_rfl) (fun _ _ _ h => h) (Or.inl ⟨by rfl, ?_⟩) ((And.intro x_d_s0 (And.intro x_f_s0 c_g_s0))) ?_
  rotate_left
  · intro wq hSq
    go_simp
    exact rfl
  try simp only [Act.put, List.setIfInBounds_toArray, List.set_cons_zero, List.set_cons_succ]
  refine wpAnyH_done (by kernel_rfl) ?_ _
  go_wp2_with fail
  go_returns
  exact ⟨rfl, Bs0⟩

set_option maxRecDepth 100000 in
set_option maxHeartbeats 6400000 in
theorem rhas_cn {v : Value} {ts : List Tk} {cs : List Cmd} (f : Frm) (h0 : f.kd = 2) {i : Int} (hF : Fnd (fun u => u.bare = f.c.bare) cs i) (hi : i < 0) (w : World) (h1 : IsD w v ts cs) : Calls Try.prog 38 #[v, .agg (mcell f).toArray] w fun e w' => e = .returned (.bool false) ∧ Below w.heap.size w w' := by
  obtain ⟨v1, v2, rfl, g1, g2⟩ := id h1
  obtain ⟨a1, c1, rfl, hr1⟩ := id g1; obtain ⟨a2, c2, rfl, hr2⟩ := id g2
  have m1 := hr1.most; have r1 := hr1.room; have m2 := hr2.most; have r2 := hr2.room; have H1 := Lib.hid g1; have H2 := Lib.hid g2
  clear hr1 hr2 g1 g2 h1
  have AT := fun (W : World) (v : Value) (h : IsR LC W v cs) => rcat_is f.c W h hF
  have v0 : (mcell f)[0]? = some (.int .u8 2) := by rw [← h0]; rfl
  have SV := Lib.hid (size_frm f); have SP := Lib.hid (size_cmd f.c)
  have DP := Lib.hid (mcell_c f)
  have d1 : decide ((0 : Int) ≤ i) = false := decide_eq_false (by omega)
  obtain ⟨PV, hPV⟩ : ∃ X, ccell f.c = X := ⟨_, rfl⟩; rw [hPV] at AT SP DP; clear hPV
  obtain ⟨V, hV⟩ : ∃ X, mcell f = X := ⟨_, rfl⟩; rw [hV] at SV v0 DP ⊢; clear hV h0 hF hi
  go_enter Try.func38, Try.ntmps38
  go_upto_region 1 with fail
  refine F_gen (F := fun W => Code.wp _ _ _ _ W) (J := fun W => Box W (w.heap.size) ([.slice a1 ts.length c1, .slice a2 cs.length c2]) ∧ Box W (w.heap.size + 1) (V) ∧ Below w.heap.size w W) (And.intro (Box.alloc (Box.newc rfl rfl) _) (And.intro (Box.newc rfl (by simp)) (by go_grown))) ?_
  intro w0 ⟨e_d, e_f, hB0⟩
  have hs0 := hB0.size
  have x_d0 := e_d; clear e_d
  have x_f0 := e_f; clear e_f
  have ca := (x_f0).c 0 _ v0
  have za := (x_f0).lt
  have cb := (x_d0).c 1 _ rfl
  have zb := (x_d0).lt
  go_wp2_with (refine wpList_load_rangew rfl _ _ rfl (Box.rangeMid x_f0 39 (PV) ([]) DP.out) rfl Try.underlying39 rfl SP.out ?_)
  refine (AT _ _ (H2.out.below hB0)).mono ?_
  rintro e w1 ⟨rfl, hb⟩
  clear ca za cb zb
  have hB1 : Below w.heap.size w w1 := below_thru hB0 hb
  have hs1 := hB1.size
  have x_d1 : Box w1 (w.heap.size) ([.slice a1 ts.length c1, .slice a2 cs.length c2]) := Box.below x_d0 hb
  have x_f1 : Box w1 (w.heap.size + 1) (V) := Box.below x_f0 hb
  clear hB0 hs0 x_d0 x_f0
  clear hb
  go_upto_region 3 with fail
  refine wp_region_held_drew (S := fun W => Box W (w.heap.size) ([.slice a1 ts.length c1, .slice a2 cs.length c2]) ∧ Box W (w.heap.size + 1) (V)) (by kernel_rfl) (And.intro (x_d1).drew (x_f1).drew) (fun _ => ?_)
  refine F_drew (F := fun W => wpAnyH _ _ _ _ _ _ _ _ W) ?_
  intro Ws0 hbs0
  clear hs1
  have x_d_s0 : Box Ws0 (w.heap.size) ([.slice a1 ts.length c1, .slice a2 cs.length c2]) := Box.below x_d1 hbs0
  have x_f_s0 : Box Ws0 (w.heap.size + 1) (V) := Box.below x_f1 hbs0
  have Bs0 := below_thru hB1 hbs0
  clear x_d1 x_f1 hB1 hbs0
  refine takeH 0 15 (v := ?vs0_1) rfl (by rfl) (by kernel_rfl) (by kernel_rfl) (by kernel_rfl) (fun _ _ _ h => h) (Or.inl ⟨by rfl, ?_⟩) ((And.intro x_d_s0 x_f_s0)) ?_
  rotate_left
  · intro wq hSq
    go_simp
    exact rfl
  try simp only [Act.put, List.setIfInBounds_toArray, List.set_cons_zero, List.set_cons_succ]
  refine takeH 1 16 (v := ?vs1_2) rfl (by rfl) (by kernel_rfl) (by kernel_rfl) (by kernel_rfl) (fun _ _ _ h => h) (Or.inl ⟨by rfl, ?_⟩) ((And.intro x_d_s0 x_f_s0)) ?_
  rotate_left
  · intro wq hSq
    go_simp
    exact rfl
  try simp only [Act.put, List.setIfInBounds_toArray, List.set_cons_zero, List.set_cons_succ]
  refine takeH 2 17 (v := ?vs2_3) rfl (by rfl) (by kernel_rfl) (by kernel_rfl) (by kernel_rfl) (fun _ _ _ h => h) (Or.inl ⟨by rfl, ?_⟩) ((And.intro x_d_s0 x_f_s0)) ?_
  rotate_left
  · intro wq hSq
    go_simp
    exact rfl
  try simp only [Act.put, List.setIfInBounds_toArray, List.set_cons_zero, List.set_cons_succ]
  refine takeH 3 18 (v := undef) rfl (by rfl) (by kernel_rfl) (by kernel_rfl) (by kernel_rfl) (fun _ _ _ h => h) (Or.inr ⟨by rfl, rfl⟩) ((And.intro x_d_s0 x_f_s0)) ?_
  try simp only [Act.put, List.setIfInBounds_toArray, List.set_cons_zero, List.set_cons_succ]
  refine takeH 4 19 (v := undef) rfl (by rfl) (by kernel_rfl) (by kernel_rfl) (by kernel_rfl) (fun _ _ _ h => h) (Or.inr ⟨by rfl, rfl⟩) ((And.intro x_d_s0 x_f_s0)) ?_
  try simp only [Act.put, List.setIfInBounds_toArray, List.set_cons_zero, List.set_cons_succ]
  refine takeH 5 20 (v := undef) rfl (by rfl) (by kernel_rfl) (by kernel_rfl) (by kernel_rfl) (fun _ _ _ h => h) (Or.inr ⟨by rfl, rfl⟩) ((And.intro x_d_s0 x_f_s0)) ?_
  try simp only [Act.put, List.setIfInBounds_toArray, List.set_cons_zero, List.set_cons_succ]
  refine takeH 6 21 (v := undef) rfl (by rfl) (by kernel_rfl) (by kernel_rfl) (by kernel_rfl) (fun _ _ _ h => h) (Or.inr ⟨by rfl, rfl⟩) ((And.intro x_d_s0 x_f_s0)) ?_
  try simp only [Act.put, List.setIfInBounds_toArray, List.set_cons_zero, List.set_cons_succ]
  refine takeH 7 22 (v := undef) rfl (by rfl) (by kernel_rfl) (by kernel_rfl) (by kernel_rfl) (fun _ _ _ h => h) (Or.inr ⟨by rfl, rfl⟩) ((And.intro x_d_s0 x_f_s0)) ?_
  try simp only [Act.put, List.setIfInBounds_toArray, List.set_cons_zero, List.set_cons_succ]
  refine takeH 8 23 (v := undef) rfl (by rfl) (by kernel_rfl) (by kernel_rfl) (by kernel_rfl) (fun _ _ _ h => h) (Or.inr ⟨by rfl, rfl⟩) ((And.intro x_d_s0 x_f_s0)) ?_
  try simp only [Act.put, List.setIfInBounds_toArray, List.set_cons_zero, List.set_cons_succ]
  refine takeH 9 24 (v := undef) rfl (by rfl) (by kernel_rfl) (by kernel_rfl) (by kernel_rfl) (fun _ _ _ h => h) (Or.inr ⟨by rfl, rfl⟩) ((And.intro x_d_s0 x_f_s0)) ?_
  try simp only [Act.put, List.setIfInBounds_toArray, List.set_cons_zero, List.set_cons_succ]
  refine takeH 10 25 (v := undef) rfl (by rfl) (by kernel_rfl) (by kernel_rfl) (by kernel_rfl) (fun _ _ _ h => h) (Or.inr ⟨by rfl, rfl⟩) ((And.intro x_d_s0 x_f_s0)) ?_
  try simp only [Act.put, List.setIfInBounds_toArray, List.set_cons_zero, List.set_cons_succ]
  refine takeH 11 26 (v := ?vs11_4) rfl (by rfl) (by kernel_rfl) (by kernel_rfl) (by kernel_rfl) (fun _ _ _ h => h) (Or.inl ⟨by rfl, ?_⟩) ((And.intro x_d_s0 x_f_s0)) ?_
  rotate_left
  · intro wq hSq
    go_simp
    exact rfl
  try simp only [Act.put, List.setIfInBounds_toArray, List.set_cons_zero, List.set_cons_succ]
  refine takeH 12 4 (v := ?vs12_5) rfl (by rfl) (by kernel_rfl) (by kernel_rfl) (by kernel_rfl) (fun _ _ _ h => h) (Or.inl ⟨by rfl, ?_⟩) ((And.intro x_d_s0 x_f_s0)) ?_
  rotate_left
  · intro wq hSq
    go_simp
    exact rfl
  try simp only [Act.put, List.setIfInBounds_toArray, List.set_cons_zero, List.set_cons_succ]
  refine wpAnyH_done (by kernel_rfl) ?_ _
  go_wp2_with fail
  go_returns
  exact ⟨rfl, Bs0⟩

set_option maxRecDepth 100000 in
set_option maxHeartbeats 6400000 in
theorem rhas_cs {v : Value} {ts : List Tk} {cs : List Cmd} (f : Frm) (h0 : f.kd = 2) {i : Int} (hF : Fnd (fun u => u.bare = f.c.bare) cs i) {n : Nat} {y : Cmd} {b : Bool} (hi : i = n) (hy : cs[n]? = some y) (hb : b = true ↔ y = f.c) (w : World) (h1 : IsD w v ts cs) : Calls Try.prog 38 #[v, .agg (mcell f).toArray] w fun e w' => e = .returned (.bool b) ∧ Below w.heap.size w w' := by
  obtain ⟨v1, v2, rfl, g1, g2⟩ := id h1
  obtain ⟨a1, c1, rfl, hr1⟩ := id g1; obtain ⟨a2, c2, rfl, hr2⟩ := id g2
  have m1 := hr1.most; have r1 := hr1.room; have m2 := hr2.most; have r2 := hr2.room; have H1 := Lib.hid g1; have H2 := Lib.hid g2
  clear hr1 hr2 g1 g2 h1
  have AT := fun (W : World) (v : Value) (h : IsR LC W v cs) => rcat_is f.c W h hF
  have v0 : (mcell f)[0]? = some (.int .u8 2) := by rw [← h0]; rfl
  have SV := Lib.hid (size_frm f); have SP := Lib.hid (size_cmd f.c)
  have DP := Lib.hid (mcell_c f)
  have hn := (List.getElem?_eq_some_iff.1 hy).1; subst hi
  obtain ⟨b1, o1, rfl, x1⟩ := H2.out.get 47 rfl hy
  have d1 : decide ((0 : Int) ≤ (n : Int)) = true := decide_eq_true (by omega); have d2 : decide ((n : Int) < (cs.length : Int)) = true := decide_eq_true (by omega); have i0 : (0 : Int) ≤ (n : Int) := (by omega); have i1 : (n : Int) < (cs.length : Int) := (by omega)
  have EQ := fun W => eq_cm hb W; have SY := Lib.hid (size_cmd y)
  obtain ⟨VY, hVY⟩ : ∃ X, ccell y = X := ⟨_, rfl⟩; rw [hVY] at EQ SY; rw [show LC.f y = VY from hVY] at x1; clear hVY
  obtain ⟨PV, hPV⟩ : ∃ X, ccell f.c = X := ⟨_, rfl⟩; rw [hPV] at AT SP DP EQ; clear hPV
  obtain ⟨V, hV⟩ : ∃ X, mcell f = X := ⟨_, rfl⟩; rw [hV] at SV v0 DP ⊢; clear hV h0 hF hb hy hn
  go_enter Try.func38, Try.ntmps38
  go_upto_region 1 with fail
  refine F_gen (F := fun W => Code.wp _ _ _ _ W) (J := fun W => Box W (w.heap.size) ([.slice a1 ts.length c1, .slice (some ⟨b1, o1, none⟩) cs.length c2]) ∧ Box W (w.heap.size + 1) (V) ∧ Below w.heap.size w W) (And.intro (Box.alloc (Box.newc rfl rfl) _) (And.intro (Box.newc rfl (by simp)) (by go_grown))) ?_
  intro w0 ⟨e_d, e_f, hB0⟩
  have hs0 := hB0.size
  have x_d0 := e_d; clear e_d
  have x_f0 := e_f; clear e_f
  have x1 := range_below x1 hB0
  have ca := (x_f0).c 0 _ v0
  have za := (x_f0).lt
  have cb := (x_d0).c 1 _ rfl
  have zb := (x_d0).lt
  go_wp2_with (refine wpList_load_rangew rfl _ _ rfl (Box.rangeMid x_f0 39 (PV) ([]) DP.out) rfl Try.underlying39 rfl SP.out ?_)
  refine (AT _ _ (H2.out.below hB0)).mono ?_
  rintro e w1 ⟨rfl, hb⟩
  clear ca za cb zb
  have x12 := range_below x1 hb; clear x1; have x1 := x12; clear x12
  have hB1 : Below w.heap.size w w1 := below_thru hB0 hb
  have hs1 := hB1.size
  have x_d1 : Box w1 (w.heap.size) ([.slice a1 ts.length c1, .slice (some ⟨b1, o1, none⟩) cs.length c2]) := Box.below x_d0 hb
  have x_f1 : Box w1 (w.heap.size + 1) (V) := Box.below x_f0 hb
  clear hB0 hs0 x_d0 x_f0
  clear hb
  go_upto_region 3 with fail
  refine wp_region_held_drew (S := fun W => Box W (w.heap.size) ([.slice a1 ts.length c1, .slice (some ⟨b1, o1, none⟩) cs.length c2]) ∧ Box W (w.heap.size + 1) (V) ∧ W.rangeAt (b1) (o1 + n * 47) (VY)) (by kernel_rfl) (And.intro (x_d1).drew (And.intro (x_f1).drew x1)) (fun _ => ?_)
  refine F_drew (F := fun W => wpAnyH _ _ _ _ _ _ _ _ W) ?_
  intro Ws0 hbs0
  clear hs1
  have x_d_s0 : Box Ws0 (w.heap.size) ([.slice a1 ts.length c1, .slice (some ⟨b1, o1, none⟩) cs.length c2]) := Box.below x_d1 hbs0
  have x_f_s0 : Box Ws0 (w.heap.size + 1) (V) := Box.below x_f1 hbs0
  have c_g_s0 := range_below x1 hbs0
  have Bs0 := below_thru hB1 hbs0
  clear x_d1 x_f1 x1 hB1 hbs0
  refine takeH 0 15 (v := ?vs0_1) rfl (by rfl) (by kernel_rfl) (by kernel_rfl) (by kernel_rfl) (fun _ _ _ h => h) (Or.inl ⟨by rfl, ?_⟩) ((And.intro x_d_s0 (And.intro x_f_s0 c_g_s0))) ?_
  rotate_left
  · intro wq hSq
    go_simp
    exact rfl
  try simp only [Act.put, List.setIfInBounds_toArray, List.set_cons_zero, List.set_cons_succ]
  refine takeH 1 16 (v := ?vs1_2) rfl (by rfl) (by kernel_rfl) (by kernel_rfl) (by kernel_rfl) (fun _ _ _ h => h) (Or.inl ⟨by rfl, ?_⟩) ((And.intro x_d_s0 (And.intro x_f_s0 c_g_s0))) ?_
  rotate_left
  · intro wq hSq
    go_simp
    exact rfl
  try simp only [Act.put, List.setIfInBounds_toArray, List.set_cons_zero, List.set_cons_succ]
  refine takeH 2 17 (v := ?vs2_3) rfl (by rfl) (by kernel_rfl) (by kernel_rfl) (by kernel_rfl) (fun _ _ _ h => h) (Or.inl ⟨by rfl, ?_⟩) ((And.intro x_d_s0 (And.intro x_f_s0 c_g_s0))) ?_
  rotate_left
  · intro wq hSq
    go_simp
    exact rfl
  try simp only [Act.put, List.setIfInBounds_toArray, List.set_cons_zero, List.set_cons_succ]
  refine takeH 3 18 (v := ?vs3_4) rfl (by rfl) (by kernel_rfl) (by kernel_rfl) (by kernel_rfl) (fun _ _ _ h => h) (Or.inl ⟨by rfl, ?_⟩) ((And.intro x_d_s0 (And.intro x_f_s0 c_g_s0))) ?_
  rotate_left
  · intro wq hSq
    go_simp
    exact rfl
  try simp only [Act.put, List.setIfInBounds_toArray, List.set_cons_zero, List.set_cons_succ]
  refine takeH 4 19 (v := ?vs4_5) rfl (by rfl) (by kernel_rfl) (by kernel_rfl) (by kernel_rfl) (fun _ _ _ h => h) (Or.inl ⟨by rfl, ?_⟩) ((And.intro x_d_s0 (And.intro x_f_s0 c_g_s0))) ?_
  rotate_left
  · intro wq hSq
    have cq := (hSq.1).c 1 _ rfl
    have zq := lt_of_cell cq
    go_simp
    exact rfl
  try simp only [Act.put, List.setIfInBounds_toArray, List.set_cons_zero, List.set_cons_succ]
  refine takeH 5 20 (v := ?vs5_6) rfl (by rfl) (by kernel_rfl) (by kernel_rfl) (by kernel_rfl) (fun _ _ _ h => h) (Or.inl ⟨by rfl, ?_⟩) ((And.intro x_d_s0 (And.intro x_f_s0 c_g_s0))) ?_
  rotate_left
  · intro wq hSq
    go_simp
    exact rfl
  try simp only [Act.put, List.setIfInBounds_toArray, List.set_cons_zero, List.set_cons_succ]
  refine takeH 6 21 (v := ?vs6_7) rfl (by rfl) (by kernel_rfl) (by kernel_rfl) (by kernel_rfl) (fun _ _ _ h => h) (Or.inl ⟨by rfl, ?_⟩) ((And.intro x_d_s0 (And.intro x_f_s0 c_g_s0))) ?_
  rotate_left
  · intro wq hSq
    go_simp
    exact rfl
  try simp only [Act.put, List.setIfInBounds_toArray, List.set_cons_zero, List.set_cons_succ]
  refine takeH 8 23 (v := ?vs8_8) rfl (by rfl) (by kernel_rfl) (by kernel_rfl) (by kernel_rfl) (fun _ _ _ h => h) (Or.inl ⟨by rfl, ?_⟩) ((And.intro x_d_s0 (And.intro x_f_s0 c_g_s0))) ?_
  rotate_left
  · intro wq hSq
    go_simp
    exact rfl
  try simp only [Act.put, List.setIfInBounds_toArray, List.set_cons_zero, List.set_cons_succ]
  refine takeH 7 22 (v := .agg (VY).toArray) rfl (by rfl) (by kernel_rfl) (by kernel_rfl) (by kernel_rfl) (fun _ _ _ h => h) (yieldsIf_load_mid (by rfl) _ _ rfl _ _ rfl (VY) _ (fun wq hq => hq.2.2) Try.underlying39 rfl SY.out) ((And.intro x_d_s0 (And.intro x_f_s0 c_g_s0))) ?_
  try simp only [Act.put, List.setIfInBounds_toArray, List.set_cons_zero, List.set_cons_succ]
  refine takeH 9 24 (v := .agg (PV).toArray) rfl (by rfl) (by kernel_rfl) (by kernel_rfl) (by kernel_rfl) (fun _ _ _ h => h) (yieldsIf_load_mid (by rfl) _ _ rfl _ _ rfl (PV) _ (fun wq hq => Box.rangeMid (hq.2.1) 39 (PV) ([]) DP.out) Try.underlying39 rfl SP.out) ((And.intro x_d_s0 (And.intro x_f_s0 c_g_s0))) ?_
  try simp only [Act.put, List.setIfInBounds_toArray, List.set_cons_zero, List.set_cons_succ]
  refine takeH 10 25 (v := ?vs10_9) rfl (by rfl) (by kernel_rfl) (by kernel_rfl) (by kernel_rfl) (fun _ _ _ h => h) (Or.inl ⟨by rfl, ?_⟩) ((And.intro x_d_s0 (And.intro x_f_s0 c_g_s0))) ?_
  rotate_left
  · intro wq hSq
    go_simp
    exact rfl
  try simp only [Act.put, List.setIfInBounds_toArray, List.set_cons_zero, List.set_cons_succ]
  refine takeH 11 26 (v := ?vs11_10) rfl (by rfl) (by kernel_rfl) (by kernel_rfl) (by kernel_rfl) (fun _ _ _ h => h) (Or.inl ⟨by rfl, ?_⟩) ((And.intro x_d_s0 (And.intro x_f_s0 c_g_s0))) ?_
  rotate_left
  · intro wq hSq
    go_simp
    exact rfl
  try simp only [Act.put, List.setIfInBounds_toArray, List.set_cons_zero, List.set_cons_succ]
  refine takeH 12 4 (v := ?vs12_11) rfl (by rfl) (by kernel_rfl) (by kernel_rfl) (by kernel_rfl) (fun _ _ _ h => h) (Or.inl ⟨by rfl, ?_⟩) ((And.intro x_d_s0 (And.intro x_f_s0 c_g_s0))) ?_
  rotate_left
  · intro wq hSq
    go_simp
    exact rfl
  try simp only [Act.put, List.setIfInBounds_toArray, List.set_cons_zero, List.set_cons_succ]
  refine wpAnyH_done (by kernel_rfl) ?_ _
  go_wp2_with fail
  go_returns
  exact ⟨rfl, Bs0⟩

theorem rhas_is {v : Value} {ts : List Tk} {cs : List Cmd} (f : Frm) (hk : f.kd = 1 ∨ f.kd = 2) (hT : DstT ts) (hC : DstC cs) {b : Bool} (hb : b = true ↔ AccD ts cs f) (w : World) (h1 : IsD w v ts cs) : Calls Try.prog 38 #[v, .agg (mcell f).toArray] w fun e w' => e = .returned (.bool b) ∧ Below w.heap.size w w' := by
  rcases hk with h0 | h0
  · obtain ⟨i, hF⟩ := Fnd.ex (fun u : Tk => u.bare = f.r.tk.bare) ts
    have hb := hb.trans ((AccD.of1 (by rw [h0]; decide)).trans (fnd_mem hT hF))
    by_cases hi : i < 0
    · rw [bool_eq12 hb (c := false) ⟨fun h => (Bool.false_ne_true h).elim, fun ⟨n, e, _⟩ => by omega⟩]
      exact rhas_tn f h0 hF hi w h1
    · obtain ⟨n, y, e, hy, _⟩ := hF.pos (by omega)
      refine rhas_ts f h0 hF e hy (hb.trans ⟨fun ⟨m, e2, hm⟩ => ?_, fun q => ⟨n, e, by rw [← q]; exact hy⟩⟩) w h1
      obtain rfl : m = n := by omega
      rw [hy] at hm
      exact Option.some.inj hm
  · obtain ⟨i, hF⟩ := Fnd.ex (fun u : Cmd => u.bare = f.c.bare) cs
    have hb := hb.trans ((AccD.of2 h0).trans (fnd_mem hC hF))
    by_cases hi : i < 0
    · rw [bool_eq12 hb (c := false) ⟨fun h => (Bool.false_ne_true h).elim, fun ⟨n, e, _⟩ => by omega⟩]
      exact rhas_cn f h0 hF hi w h1
    · obtain ⟨n, y, e, hy, _⟩ := hF.pos (by omega)
      refine rhas_cs f h0 hF e hy (hb.trans ⟨fun ⟨m, e2, hm⟩ => ?_, fun q => ⟨n, e, by rw [← q]; exact hy⟩⟩) w h1
      obtain rfl : m = n := by omega
      rw [hy] at hm
      exact Option.some.inj hm

/-- What Accepts answers. -/
def AcpD (ts : List Tk) (cs : List Cmd) (f : Frm) (b : Bool) (q : Int) : Prop := (q ≠ 0 ∧ ChkD ts cs q ∧ b = false) ∨ (q = 8 ∧ ChkD ts cs 0 ∧ ¬ f.Ok ∧ b = false) ∨ (q = 0 ∧ ChkD ts cs 0 ∧ f.Ok ∧ (b = true ↔ AccD ts cs f))
theorem AcpD.ex (ts : List Tk) (cs : List Cmd) (f : Frm) : ∃ b q, AcpD ts cs f b q := by
  obtain ⟨q, hq⟩ := ChkD.ex ts cs
  by_cases h : q = 0
  · subst h
    by_cases hf : f.Ok
    · obtain ⟨b, hb⟩ := bool_of (AccD ts cs f)
      exact ⟨b, _, Or.inr (Or.inr ⟨rfl, hq, hf, hb⟩)⟩
    · exact ⟨_, _, Or.inr (Or.inl ⟨rfl, hq, hf, rfl⟩)⟩
  · exact ⟨_, _, Or.inl ⟨h, hq, rfl⟩⟩
theorem ChkD.dst {ts : List Tk} {cs : List Cmd} (h : ChkD ts cs 0) : DstT ts ∧ DstC cs := by
  rcases h with ⟨h, _⟩ | ⟨h, _⟩ | ⟨h, _⟩ | ⟨_, _, _, _, h1, h2⟩
  · cases h
  · cases h
  · cases h
  · exact ⟨h1, h2⟩
set_option maxRecDepth 100000 in
set_option maxHeartbeats 6400000 in
theorem racp_a {v : Value} {ts : List Tk} {cs : List Cmd} (f : Frm) (hl : ts.length + cs.length ≤ 200) {q : Int} (hn : q ≠ 0) (hq : ChkD ts cs q) (w : World) (h1 : IsD w v ts cs) : Calls Try.prog 22 #[v, .agg (mcell f).toArray] w fun e w' => e = .returned (.tuple #[.bool false, .int .i64 q]) ∧ Below w.heap.size w w' := by
  have CK := fun (W : World) (u : Value) (h : IsD W u ts cs) => rchk12_is W h hl hq; have SV := Lib.hid (size_frm f)
  have d1 : (q != 0) = true := by rw [bne_iff_ne]; exact hn
  clear hn
  have HD := Lib.hid h1
  obtain ⟨v1, v2, rfl, g1, g2⟩ := id h1
  have OD : ([v1, v2] : List Value).toArray = #[v1, v2] := rfl
  have SD := Lib.hid (size_id12 v1 v2)
  clear g1 g2 h1 OD
  obtain ⟨V, hV⟩ : ∃ X, mcell f = X := ⟨_, rfl⟩; rw [hV] at SV ⊢; clear hV hl hq
  go_enter Try.func22, Try.ntmps22
  go_upto_region 1 with fail
  refine F_gen (F := fun W => Code.wp _ _ _ _ W) (J := fun W => Box W (w.heap.size) ([v1, v2]) ∧ Box W (w.heap.size + 1) (V) ∧ Below w.heap.size w W) (And.intro (Box.alloc (Box.newc rfl rfl) _) (And.intro (Box.newc rfl (by simp)) (by go_grown))) ?_
  intro w0 ⟨e_d, e_f, hB0⟩
  have hs0 := hB0.size
  have x_d0 := e_d; clear e_d
  have x_f0 := e_f; clear e_f
  go_wp2_with (refine wpList_load_box9 rfl _ _ rfl x_d0 rfl Try.underlying25 rfl SD.out ?_)
  refine (CK _ _ (HD.out.below hB0)).mono ?_
  rintro e w1 ⟨rfl, hb⟩
  have hB1 : Below w.heap.size w w1 := below_thru hB0 hb
  have hs1 := hB1.size
  have x_d1 : Box w1 (w.heap.size) ([v1, v2]) := Box.below x_d0 hb
  have x_f1 : Box w1 (w.heap.size + 1) (V) := Box.below x_f0 hb
  clear hB0 hs0 x_d0 x_f0
  clear hb
  go_wp2_with (refine wpList_load_box9 rfl _ _ rfl x_d1 rfl Try.underlying25 rfl SD.out ?_)
  refine (CK _ _ (HD.out.below hB1)).mono ?_
  rintro e w2 ⟨rfl, hb⟩
  have hB2 : Below w.heap.size w w2 := below_thru hB1 hb
  have hs2 := hB2.size
  have x_d2 : Box w2 (w.heap.size) ([v1, v2]) := Box.below x_d1 hb
  have x_f2 : Box w2 (w.heap.size + 1) (V) := Box.below x_f1 hb
  clear hB1 hs1 x_d1 x_f1
  clear hb
  go_wp2_with fail
  go_returns
  exact ⟨rfl, hB2⟩

set_option maxRecDepth 100000 in
set_option maxHeartbeats 6400000 in
theorem racp_b {v : Value} {ts : List Tk} {cs : List Cmd} (f : Frm) (hl : ts.length + cs.length ≤ 200) (hq : ChkD ts cs 0) (hf : ¬ f.Ok) (w : World) (h1 : IsD w v ts cs) : Calls Try.prog 22 #[v, .agg (mcell f).toArray] w fun e w' => e = .returned (.tuple #[.bool false, .int .i64 8]) ∧ Below w.heap.size w w' := by
  have CK := fun (W : World) (u : Value) (h : IsD W u ts cs) => rchk12_is W h hl hq; have SV := Lib.hid (size_frm f)
  have FK := fun W => rchk_is f (q := 8) (Lib.hid (Or.inr ⟨rfl, hf⟩)) W
  have HD := Lib.hid h1
  obtain ⟨v1, v2, rfl, g1, g2⟩ := id h1
  have OD : ([v1, v2] : List Value).toArray = #[v1, v2] := rfl
  have SD := Lib.hid (size_id12 v1 v2)
  clear g1 g2 h1 OD
  obtain ⟨V, hV⟩ : ∃ X, mcell f = X := ⟨_, rfl⟩; rw [hV] at SV FK ⊢; clear hV hl hq hf
  go_enter Try.func22, Try.ntmps22
  go_upto_region 1 with fail
  refine F_gen (F := fun W => Code.wp _ _ _ _ W) (J := fun W => Box W (w.heap.size) ([v1, v2]) ∧ Box W (w.heap.size + 1) (V) ∧ Below w.heap.size w W) (And.intro (Box.alloc (Box.newc rfl rfl) _) (And.intro (Box.newc rfl (by simp)) (by go_grown))) ?_
  intro w0 ⟨e_d, e_f, hB0⟩
  have hs0 := hB0.size
  have x_d0 := e_d; clear e_d
  have x_f0 := e_f; clear e_f
  go_wp2_with (refine wpList_load_box9 rfl _ _ rfl x_d0 rfl Try.underlying25 rfl SD.out ?_)
  refine (CK _ _ (HD.out.below hB0)).mono ?_
  rintro e w1 ⟨rfl, hb⟩
  have hB1 : Below w.heap.size w w1 := below_thru hB0 hb
  have hs1 := hB1.size
  have x_d1 : Box w1 (w.heap.size) ([v1, v2]) := Box.below x_d0 hb
  have x_f1 : Box w1 (w.heap.size + 1) (V) := Box.below x_f0 hb
  clear hB0 hs0 x_d0 x_f0
  clear hb
  go_wp2_with (refine wpList_load_box9 rfl _ _ rfl x_f1 rfl Try.underlying47 rfl SV.out ?_)
  refine (FK _).mono ?_
  rintro e w2 ⟨rfl, hb⟩
  have hB2 : Below w.heap.size w w2 := below_thru hB1 hb
  have hs2 := hB2.size
  have x_d2 : Box w2 (w.heap.size) ([v1, v2]) := Box.below x_d1 hb
  have x_f2 : Box w2 (w.heap.size + 1) (V) := Box.below x_f1 hb
  clear hB1 hs1 x_d1 x_f1
  clear hb
  go_wp2_with fail
  go_returns
  exact ⟨rfl, hB2⟩

set_option maxRecDepth 100000 in
set_option maxHeartbeats 6400000 in
theorem racp_c {v : Value} {ts : List Tk} {cs : List Cmd} (f : Frm) (hl : ts.length + cs.length ≤ 200) (hq : ChkD ts cs 0) (hf : f.Ok) {b : Bool} (hb : b = true ↔ AccD ts cs f) (w : World) (h1 : IsD w v ts cs) : Calls Try.prog 22 #[v, .agg (mcell f).toArray] w fun e w' => e = .returned (.tuple #[.bool b, .int .i64 0]) ∧ Below w.heap.size w w' := by
  have CK := fun (W : World) (u : Value) (h : IsD W u ts cs) => rchk12_is W h hl hq; have SV := Lib.hid (size_frm f)
  have FK := fun W => rchk_is f (q := 0) (Lib.hid (Or.inl ⟨rfl, hf⟩)) W; have HS := fun (W : World) (u : Value) (h : IsD W u ts cs) => rhas_is f (by rcases hf with ⟨h, _⟩ | ⟨h, _⟩; exact Or.inl h; exact Or.inr h) hq.dst.1 hq.dst.2 hb W h
  have HD := Lib.hid h1
  obtain ⟨v1, v2, rfl, g1, g2⟩ := id h1
  have OD : ([v1, v2] : List Value).toArray = #[v1, v2] := rfl
  have SD := Lib.hid (size_id12 v1 v2)
  clear g1 g2 h1 OD
  obtain ⟨V, hV⟩ : ∃ X, mcell f = X := ⟨_, rfl⟩; rw [hV] at SV FK HS ⊢; clear hV hl hq hf hb
  go_enter Try.func22, Try.ntmps22
  go_upto_region 1 with fail
  refine F_gen (F := fun W => Code.wp _ _ _ _ W) (J := fun W => Box W (w.heap.size) ([v1, v2]) ∧ Box W (w.heap.size + 1) (V) ∧ Below w.heap.size w W) (And.intro (Box.alloc (Box.newc rfl rfl) _) (And.intro (Box.newc rfl (by simp)) (by go_grown))) ?_
  intro w0 ⟨e_d, e_f, hB0⟩
  have hs0 := hB0.size
  have x_d0 := e_d; clear e_d
  have x_f0 := e_f; clear e_f
  go_wp2_with (refine wpList_load_box9 rfl _ _ rfl x_d0 rfl Try.underlying25 rfl SD.out ?_)
  refine (CK _ _ (HD.out.below hB0)).mono ?_
  rintro e w1 ⟨rfl, hb⟩
  have hB1 : Below w.heap.size w w1 := below_thru hB0 hb
  have hs1 := hB1.size
  have x_d1 : Box w1 (w.heap.size) ([v1, v2]) := Box.below x_d0 hb
  have x_f1 : Box w1 (w.heap.size + 1) (V) := Box.below x_f0 hb
  clear hB0 hs0 x_d0 x_f0
  clear hb
  go_wp2_with (refine wpList_load_box9 rfl _ _ rfl x_f1 rfl Try.underlying47 rfl SV.out ?_)
  refine (FK _).mono ?_
  rintro e w2 ⟨rfl, hb⟩
  have hB2 : Below w.heap.size w w2 := below_thru hB1 hb
  have hs2 := hB2.size
  have x_d2 : Box w2 (w.heap.size) ([v1, v2]) := Box.below x_d1 hb
  have x_f2 : Box w2 (w.heap.size + 1) (V) := Box.below x_f1 hb
  clear hB1 hs1 x_d1 x_f1
  clear hb
  go_wp2_with (first
    | (refine wpList_load_box9 rfl _ _ rfl x_d2 rfl Try.underlying25 rfl SD.out ?_)
    | (refine wpList_load_box9 rfl _ _ rfl x_f2 rfl Try.underlying47 rfl SV.out ?_))
  refine (HS _ _ (HD.out.below hB2)).mono ?_
  rintro e w3 ⟨rfl, hb⟩
  have hB3 : Below w.heap.size w w3 := below_thru hB2 hb
  have hs3 := hB3.size
  have x_d3 : Box w3 (w.heap.size) ([v1, v2]) := Box.below x_d2 hb
  have x_f3 : Box w3 (w.heap.size + 1) (V) := Box.below x_f2 hb
  clear hB2 hs2 x_d2 x_f2
  clear hb
  go_wp2_with fail
  go_returns
  exact ⟨rfl, hB3⟩

theorem racp_is {v : Value} {ts : List Tk} {cs : List Cmd} (f : Frm) (hl : ts.length + cs.length ≤ 200) {b : Bool} {q : Int} (h : AcpD ts cs f b q) (w : World) (h1 : IsD w v ts cs) : Calls Try.prog 22 #[v, .agg (mcell f).toArray] w fun e w' => e = .returned (.tuple #[.bool b, .int .i64 q]) ∧ Below w.heap.size w w' := by
  rcases h with ⟨hn, hq, rfl⟩ | ⟨rfl, hq, hf, rfl⟩ | ⟨rfl, hq, hf, hb⟩
  · exact racp_a f hl hn hq w h1
  · exact racp_b f hl hq hf w h1
  · exact racp_c f hl hq hf hb w h1

end Go.Proofs.Ytpccahdbienjeaa
