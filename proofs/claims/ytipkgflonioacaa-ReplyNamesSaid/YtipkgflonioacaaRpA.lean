/-
  Package reply, walked: standsAlone, isAnswer, isBare, Check.
-/
import Derived.Test.YtipkgflonioacaaRpMath
namespace Go.Proofs.Ytipkgflonioacaa
open Go.RowKit

theorem ret_q {a b : Bool} (h : a = b) : Ending.returned (.bool a) = .returned (.bool b) := by rw [h]
theorem sole_1 (w : World) : Calls Try.prog 30 #[.int .u8 1] w fun e w' => e = .returned (.bool true) ∧ Below w.heap.size w w' := by
  go_enter Try.func30, Try.ntmps30
  go_wp2_with fail
  go_returns
  exact ⟨rfl, Below.refl _ _⟩
theorem sole_4 (w : World) : Calls Try.prog 30 #[.int .u8 4] w fun e w' => e = .returned (.bool true) ∧ Below w.heap.size w w' := by
  go_enter Try.func30, Try.ntmps30
  go_wp2_with fail
  go_returns
  exact ⟨rfl, Below.refl _ _⟩
theorem sole_5 (w : World) : Calls Try.prog 30 #[.int .u8 5] w fun e w' => e = .returned (.bool true) ∧ Below w.heap.size w w' := by
  go_enter Try.func30, Try.ntmps30
  go_wp2_with fail
  go_returns
  exact ⟨rfl, Below.refl _ _⟩
theorem sole_6 (w : World) : Calls Try.prog 30 #[.int .u8 6] w fun e w' => e = .returned (.bool true) ∧ Below w.heap.size w w' := by
  go_enter Try.func30, Try.ntmps30
  go_wp2_with fail
  go_returns
  exact ⟨rfl, Below.refl _ _⟩
theorem sole_7 (w : World) : Calls Try.prog 30 #[.int .u8 7] w fun e w' => e = .returned (.bool true) ∧ Below w.heap.size w w' := by
  go_enter Try.func30, Try.ntmps30
  go_wp2_with fail
  go_returns
  exact ⟨rfl, Below.refl _ _⟩
theorem sole_8 (w : World) : Calls Try.prog 30 #[.int .u8 8] w fun e w' => e = .returned (.bool true) ∧ Below w.heap.size w w' := by
  go_enter Try.func30, Try.ntmps30
  go_wp2_with fail
  go_returns
  exact ⟨rfl, Below.refl _ _⟩
theorem sole_no {n : Int} (h : ¬ Sole n) (w : World) : Calls Try.prog 30 #[.int .u8 n] w fun e w' => e = .returned (.bool false) ∧ Below w.heap.size w w' := by
  have d1 : (n == 1) = false := beq_false_of_ne (fun e => h (by unfold Sole; omega))
  have d4 : (n == 4) = false := beq_false_of_ne (fun e => h (by unfold Sole; omega))
  have d5 : (n == 5) = false := beq_false_of_ne (fun e => h (by unfold Sole; omega))
  have d6 : (n == 6) = false := beq_false_of_ne (fun e => h (by unfold Sole; omega))
  have d7 : (n == 7) = false := beq_false_of_ne (fun e => h (by unfold Sole; omega))
  have d8 : (n == 8) = false := beq_false_of_ne (fun e => h (by unfold Sole; omega))
  clear h
  go_enter Try.func30, Try.ntmps30
  go_wp2_with fail
  go_returns
  exact ⟨rfl, Below.refl _ _⟩
theorem sole_is {n : Int} {q : Bool} (hq : Hid (Sole n ↔ q = true)) (w : World) : Calls Try.prog 30 #[.int .u8 n] w fun e w' => e = .returned (.bool q) ∧ Below w.heap.size w w' := by
  by_cases h : Sole n
  · rw [hq.out.1 h]
    rcases h with rfl | rfl | rfl | rfl | rfl | rfl
    · exact sole_1 w
    · exact sole_4 w
    · exact sole_5 w
    · exact sole_6 w
    · exact sole_7 w
    · exact sole_8 w
  · have e : q = false := by
      cases q
      · rfl
      · exact absurd (hq.out.2 rfl) h
    rw [e]
    exact sole_no h w
theorem big_is {n : Int} {q : Bool} (hq : Hid (decide (1000000000 < n) = q)) (w : World) : Calls Try.prog 35 #[.int .u32 n] w fun e w' => e = .returned (.bool q) ∧ Below w.heap.size w w' := by
  have h := hq.out
  clear hq
  go_enter Try.func35, Try.ntmps35
  go_wp2_with fail
  go_returns
  exact ⟨rfl, Below.refl _ _⟩
/-- Is one of the numbers too great? -/
def bigB (xs : List Int) : Bool := xs.any fun n => decide (1000000000 < n)
theorem bigB_yes {xs : List Int} {i : Nat} (h : i < xs.length) (hb : 1000000000 < nth xs i) : bigB xs = true := List.any_eq_true.2 ⟨_, nth_mem h, decide_eq_true hb⟩
theorem bigB_no {xs : List Int} (h : ∀ i, i < xs.length → nth xs i ≤ 1000000000) : bigB xs = false := List.any_eq_false.2 fun x hx => by
  obtain ⟨i, hi, rfl⟩ := List.getElem_of_mem hx
  have := h i hi
  unfold nth at this
  rw [List.getD_eq_getElem?_getD, List.getElem?_eq_getElem hi] at this
  simp at this ⊢
  exact this
def FoundP (xs : List Int) (w : World) (e : Ending) (w' : World) : Prop := ∃ m : Int, e = .returned (.int .i64 m) ∧ decide (0 ≤ m) = bigB xs ∧ Below w.heap.size w w'
set_option maxRecDepth 100000 in
set_option maxHeartbeats 3200000 in
theorem index_big {xs : List Int} {v : Value} {w : World} (h1 : IsL w .u32 v xs) :
    Calls Try.prog 42 #[v, .func (.func 35) #[] #[]] w (FoundP xs w) := by
  obtain ⟨a0, c0, rfl, hr, _⟩ := id h1
  have i1 := hr.room
  have i2 := hr.most
  have HX := Lib.hid h1
  clear hr h1
  go_enter Try.func42, Try.ntmps42
  go_wp2_with fail
  go_loopw [8] (fun s8 wr => ∃ k : Nat, s8 = .int .i64 k ∧ k ≤ xs.length ∧ Hid (∀ i, i < k → nth xs i ≤ 1000000000) ∧ Below w.heap.size w wr) (fun s8 _ => xs.length - (intOf s8).toNat)
  case atStart => exact ⟨0, rfl, by omega, Lib.hid (fun i hi => by omega), Below.refl _ _⟩
  case round =>
    obtain ⟨k, rfl, hk, HE, hB⟩ := hrel
    have hs := hB.size
    by_cases hlt : k < xs.length
    case neg =>
      have HN := Lib.hid (show decide ((0 : Int) ≤ -1) = bigB xs by
        rw [bigB_no fun i hi => HE.out i (by omega)]
        rfl)
      go_wp2_with fail
      go_returns
      exact ⟨_, rfl, HN.out, hB⟩
    case pos =>
      obtain ⟨b, off, rfl, C0⟩ := HX.out.get k hlt
      have c0 := cell_below hB C0
      have zb := lt_of_cell c0
      by_cases hx : 1000000000 < nth xs k
      · have HN := Lib.hid (show decide ((0 : Int) ≤ (k : Int)) = bigB xs by
          rw [bigB_yes hlt hx]
          exact decide_eq_true (by omega))
        have HD := Lib.hid (decide_eq_true hx)
        obtain ⟨y, hy⟩ : ∃ y, nth xs k = y := ⟨_, rfl⟩
        rw [hy] at c0 HD
        clear hx hy C0 HX
        go_wp2_with fail
        refine (big_is HD _).mono ?_
        rintro e w1 ⟨rfl, hb⟩
        have hB1 : Below w.heap.size w w1 := below_thru (by go_grown) hb
        clear hb
        go_wp2_with fail
        go_returns
        exact ⟨_, rfl, HN.out, hB1⟩
      · have HE2 := Lib.hid (show ∀ i, i < k + 1 → nth xs i ≤ 1000000000 from fun i hi => by
          rcases Nat.lt_or_ge i k with z | z
          · exact HE.out i z
          · obtain rfl : i = k := by omega
            omega)
        have HD := Lib.hid (decide_eq_false hx)
        obtain ⟨y, hy⟩ : ∃ y, nth xs k = y := ⟨_, rfl⟩
        rw [hy] at c0 HD
        clear hx hy C0
        go_wp2_with fail
        refine (big_is HD _).mono ?_
        rintro e w1 ⟨rfl, hb⟩
        have hB1 : Below w.heap.size w w1 := below_thru (by go_grown) hb
        clear hb
        go_wp2_with fail
        go_roundw
        case rel => exact ⟨k + 1, by go_num, by omega, HE2, hB1⟩
        case measure => simp [intOf]; omega
theorem cont_big {xs : List Int} {v : Value} {w : World} (h1 : IsL w .u32 v xs) :
    Calls Try.prog 36 #[v, .func (.func 35) #[] #[]] w fun e w' => e = .returned (.bool (bigB xs)) ∧ Below w.heap.size w w' := by
  have C := index_big h1
  obtain ⟨a0, c0, rfl, hr, _⟩ := id h1
  clear hr h1
  go_enter Try.func36, Try.ntmps36
  go_wp2_with fail
  refine C.mono ?_
  rintro e w1 ⟨m, rfl, hm, hb⟩
  go_wp2_with fail
  go_returns
  exact ⟨rfl, hb⟩

theorem rep_lows (r : Rep) : bigB [r.a, r.b, r.d] = false ↔ r.Low := by
  unfold bigB Rep.Low
  simp
theorem rep_mid (r : Rep) : r.v.drop 2 = [.int .u32 r.a, .int .u32 r.b, .int .u32 r.d] ++ [.int .u64 r.x] := rfl
set_option maxRecDepth 100000 in
set_option maxHeartbeats 1600000 in
theorem ans_n (r : Rep) (hn : ¬ r.t < 16) (w : World) : Calls Try.prog 26 #[.agg r.v.toArray] w fun e w' => e = .returned (.bool false) ∧ Below w.heap.size w w' := by
  have SV := Lib.hid (size_rep r)
  have v0 : r.v[0]? = some (.int .u8 r.c) := rfl
  have v1 : r.v[1]? = some (.int .u32 r.t) := rfl
  have v2 : r.v[2]? = some (.int .u32 r.a) := rfl
  have v3 : r.v[3]? = some (.int .u32 r.b) := rfl
  have v4 : r.v[4]? = some (.int .u32 r.d) := rfl
  have v5 : r.v[5]? = some (.int .u64 r.x) := rfl
  have d1 : decide (r.t < 16) = false := decide_eq_false (by omega)
  obtain ⟨V, hV⟩ : ∃ V, r.v = V := ⟨_, rfl⟩
  rw [hV] at SV v0 v1 v2 v3 v4 v5 ⊢
  clear hV
  go_enter Try.func26, Try.ntmps26
  go_upto_region 2 with fail
  refine F_gen (F := fun W => Code.wp _ _ _ _ W) (J := fun W => Box W (w.heap.size) (V) ∧ Below w.heap.size w W) (And.intro (Box.newc rfl rfl) (by go_grown)) ?_
  intro w0 ⟨e_r, hB0⟩
  have hs0 := hB0.size
  have x_r0 := e_r; clear e_r
  have ca := (x_r0).c 1 _ v1
  have za := (x_r0).lt
  go_wp2_with fail
  go_returns
  exact ⟨rfl, hB0⟩
set_option maxRecDepth 100000 in
set_option maxHeartbeats 1600000 in
theorem ans_f (r : Rep) (hn : r.t < 16) (hl : ¬ r.Low) (w : World) : Calls Try.prog 26 #[.agg r.v.toArray] w fun e w' => e = .returned (.bool false) ∧ Below w.heap.size w w' := by
  have SV := Lib.hid (size_rep r)
  have v0 : r.v[0]? = some (.int .u8 r.c) := rfl
  have v1 : r.v[1]? = some (.int .u32 r.t) := rfl
  have v2 : r.v[2]? = some (.int .u32 r.a) := rfl
  have v3 : r.v[3]? = some (.int .u32 r.b) := rfl
  have v4 : r.v[4]? = some (.int .u32 r.d) := rfl
  have v5 : r.v[5]? = some (.int .u64 r.x) := rfl
  have HL : Hid (bigB [r.a, r.b, r.d] = true) := Lib.hid (by cases h : bigB [r.a, r.b, r.d]; exact absurd ((rep_lows r).1 h) hl; rfl)
  have DM := Lib.hid (rep_mid r)
  have CB := fun (W : World) (v : Value) (h : IsL W .u32 v [r.a, r.b, r.d]) => cont_big h
  rw [HL.out] at CB
  clear hl HL
  have d1 : decide (r.t < 16) = true := decide_eq_true (by omega)
  obtain ⟨V, hV⟩ : ∃ V, r.v = V := ⟨_, rfl⟩
  rw [hV] at SV v0 v1 v2 v3 v4 v5 DM ⊢
  clear hV
  go_enter Try.func26, Try.ntmps26
  go_upto_region 2 with fail
  refine F_gen (F := fun W => Code.wp _ _ _ _ W) (J := fun W => Box W (w.heap.size) (V) ∧ Below w.heap.size w W) (And.intro (Box.newc rfl rfl) (by go_grown)) ?_
  intro w0 ⟨e_r, hB0⟩
  have hs0 := hB0.size
  have x_r0 := e_r; clear e_r
  have ca := (x_r0).c 1 _ v1
  have za := (x_r0).lt
  have LV := IsL.range (xs := [r.a, r.b, r.d]) 3 3 rfl (Box.rangeMid x_r0 2 _ _ DM.out) (by decide) (by decide)
  go_wp2_with fail
  refine (CB _ _ LV).mono ?_
  rintro e w1 ⟨rfl, hb⟩
  have hB1 := below_thru hB0 hb
  go_wp2_with fail
  go_returns
  exact ⟨rfl, hB1⟩
set_option maxRecDepth 100000 in
set_option maxHeartbeats 1600000 in
theorem ans_t (r : Rep) (hn : r.t < 16) (hl : r.Low) (w : World) : Calls Try.prog 26 #[.agg r.v.toArray] w fun e w' => e = .returned (.bool true) ∧ Below w.heap.size w w' := by
  have SV := Lib.hid (size_rep r)
  have v0 : r.v[0]? = some (.int .u8 r.c) := rfl
  have v1 : r.v[1]? = some (.int .u32 r.t) := rfl
  have v2 : r.v[2]? = some (.int .u32 r.a) := rfl
  have v3 : r.v[3]? = some (.int .u32 r.b) := rfl
  have v4 : r.v[4]? = some (.int .u32 r.d) := rfl
  have v5 : r.v[5]? = some (.int .u64 r.x) := rfl
  have HL : Hid (bigB [r.a, r.b, r.d] = false) := Lib.hid ((rep_lows r).2 hl)
  have DM := Lib.hid (rep_mid r)
  have CB := fun (W : World) (v : Value) (h : IsL W .u32 v [r.a, r.b, r.d]) => cont_big h
  rw [HL.out] at CB
  clear hl HL
  have d1 : decide (r.t < 16) = true := decide_eq_true (by omega)
  obtain ⟨V, hV⟩ : ∃ V, r.v = V := ⟨_, rfl⟩
  rw [hV] at SV v0 v1 v2 v3 v4 v5 DM ⊢
  clear hV
  go_enter Try.func26, Try.ntmps26
  go_upto_region 2 with fail
  refine F_gen (F := fun W => Code.wp _ _ _ _ W) (J := fun W => Box W (w.heap.size) (V) ∧ Below w.heap.size w W) (And.intro (Box.newc rfl rfl) (by go_grown)) ?_
  intro w0 ⟨e_r, hB0⟩
  have hs0 := hB0.size
  have x_r0 := e_r; clear e_r
  have ca := (x_r0).c 1 _ v1
  have za := (x_r0).lt
  have LV := IsL.range (xs := [r.a, r.b, r.d]) 3 3 rfl (Box.rangeMid x_r0 2 _ _ DM.out) (by decide) (by decide)
  go_wp2_with fail
  refine (CB _ _ LV).mono ?_
  rintro e w1 ⟨rfl, hb⟩
  have hB1 := below_thru hB0 hb
  go_wp2_with fail
  go_returns
  exact ⟨rfl, hB1⟩
theorem ans_is (r : Rep) {q : Bool} (hq : Hid (r.Ans ↔ q = true)) (w : World) : Calls Try.prog 26 #[.agg r.v.toArray] w fun e w' => e = .returned (.bool q) ∧ Below w.heap.size w w' := by
  have hf : ¬ r.Ans → q = false := fun h => by
    cases q
    · rfl
    · exact absurd (hq.out.2 rfl) h
  by_cases hn : r.t < 16
  · by_cases hl : r.Low
    · rw [hq.out.1 ⟨hn, hl⟩]
      exact ans_t r hn hl w
    · rw [hf (fun h => hl h.2)]
      exact ans_f r hn hl w
  · rw [hf (fun h => hn h.1)]
    exact ans_n r hn w

set_option maxRecDepth 100000 in
set_option maxHeartbeats 1600000 in
theorem bare_n (r : Rep) (hs : ¬ Sole r.c) (w : World) : Calls Try.prog 20 #[.agg r.v.toArray] w fun e w' => e = .returned (.bool false) ∧ Below w.heap.size w w' := by
  have SV := Lib.hid (size_rep r)
  have v0 : r.v[0]? = some (.int .u8 r.c) := rfl
  have v1 : r.v[1]? = some (.int .u32 r.t) := rfl
  have v2 : r.v[2]? = some (.int .u32 r.a) := rfl
  have v3 : r.v[3]? = some (.int .u32 r.b) := rfl
  have v4 : r.v[4]? = some (.int .u32 r.d) := rfl
  have v5 : r.v[5]? = some (.int .u64 r.x) := rfl
  have CS := fun W => sole_is (n := r.c) (q := false) (Lib.hid ⟨fun h => absurd h hs, fun h => by cases h⟩) W
  obtain ⟨V, hV⟩ : ∃ V, r.v = V := ⟨_, rfl⟩
  rw [hV] at SV v0 v1 v2 v3 v4 v5 ⊢
  clear hV hs
  go_enter Try.func20, Try.ntmps20
  go_upto_region 1 with fail
  refine F_gen (F := fun W => Code.wp _ _ _ _ W) (J := fun W => Box W (w.heap.size) (V) ∧ Below w.heap.size w W) (And.intro (Box.newc rfl rfl) (by go_grown)) ?_
  intro w0 ⟨e_r, hB0⟩
  have hs0 := hB0.size
  have x_r0 := e_r; clear e_r
  have ca := (x_r0).c 0 _ v0
  have za := (x_r0).lt
  go_wp2_with fail
  refine (CS _).mono ?_
  rintro e w1 ⟨rfl, hb⟩
  clear ca za
  have hB1 : Below w.heap.size w w1 := below_thru hB0 hb
  have hs1 := hB1.size
  have x_r1 : Box w1 (w.heap.size) (V) := Box.below x_r0 hb
  clear hB0 hs0 x_r0
  clear hb
  go_wp2_with fail
  go_returns
  exact ⟨rfl, hB1⟩
set_option maxRecDepth 100000 in
set_option maxHeartbeats 1600000 in
theorem bare_f (r : Rep) (hs : Sole r.c) (he : r ≠ r.alone) (w : World) : Calls Try.prog 20 #[.agg r.v.toArray] w fun e w' => e = .returned (.bool false) ∧ Below w.heap.size w w' := by
  have SV := Lib.hid (size_rep r)
  have v0 : r.v[0]? = some (.int .u8 r.c) := rfl
  have v1 : r.v[1]? = some (.int .u32 r.t) := rfl
  have v2 : r.v[2]? = some (.int .u32 r.a) := rfl
  have v3 : r.v[3]? = some (.int .u32 r.b) := rfl
  have v4 : r.v[4]? = some (.int .u32 r.d) := rfl
  have v5 : r.v[5]? = some (.int .u64 r.x) := rfl
  have CS := fun W => sole_is (n := r.c) (q := true) (Lib.hid ⟨fun _ => rfl, fun _ => hs⟩) W
  have EQ := fun W => eqp_f (r := r) (s := r.alone) he W
  have BR := fun W => build_rc r.c r.hc W
  rw [show Rep.lone r.c r.hc = r.alone from rfl] at BR
  obtain ⟨U, hU⟩ : ∃ U, r.alone.v = U := ⟨_, rfl⟩
  rw [hU] at EQ BR
  clear hU he
  obtain ⟨V, hV⟩ : ∃ V, r.v = V := ⟨_, rfl⟩
  rw [hV] at SV v0 v1 v2 v3 v4 v5 EQ ⊢
  clear hV hs
  go_enter Try.func20, Try.ntmps20
  go_upto_region 1 with fail
  refine F_gen (F := fun W => Code.wp _ _ _ _ W) (J := fun W => Box W (w.heap.size) (V) ∧ Below w.heap.size w W) (And.intro (Box.newc rfl rfl) (by go_grown)) ?_
  intro w0 ⟨e_r, hB0⟩
  have hs0 := hB0.size
  have x_r0 := e_r; clear e_r
  have ca := (x_r0).c 0 _ v0
  have za := (x_r0).lt
  go_wp2_with fail
  refine (CS _).mono ?_
  rintro e w1 ⟨rfl, hb⟩
  clear ca za
  have hB1 : Below w.heap.size w w1 := below_thru hB0 hb
  have hs1 := hB1.size
  have x_r1 : Box w1 (w.heap.size) (V) := Box.below x_r0 hb
  clear hB0 hs0 x_r0
  clear hb
  have ca := (x_r1).c 0 _ v0
  have za := (x_r1).lt
  go_wp2_with (first | (refine wpList_load_box9 rfl _ _ rfl x_r1 rfl Try.underlying26 rfl SV.out ?_) | (refine wpList_build9 rfl 26 _ rfl (us := #[(0, .int .u8 r.c)]) (by rfl) (BR _) ?_))
  go_returns
  exact ⟨rfl, hB1⟩
set_option maxRecDepth 100000 in
set_option maxHeartbeats 1600000 in
theorem bare_t (r : Rep) (hs : Sole r.c) (he : r = r.alone) (w : World) : Calls Try.prog 20 #[.agg r.v.toArray] w fun e w' => e = .returned (.bool true) ∧ Below w.heap.size w w' := by
  have SV := Lib.hid (size_rep r)
  have v0 : r.v[0]? = some (.int .u8 r.c) := rfl
  have v1 : r.v[1]? = some (.int .u32 r.t) := rfl
  have v2 : r.v[2]? = some (.int .u32 r.a) := rfl
  have v3 : r.v[3]? = some (.int .u32 r.b) := rfl
  have v4 : r.v[4]? = some (.int .u32 r.d) := rfl
  have v5 : r.v[5]? = some (.int .u64 r.x) := rfl
  have CS := fun W => sole_is (n := r.c) (q := true) (Lib.hid ⟨fun _ => rfl, fun _ => hs⟩) W
  have EQ := fun W => eqp_t (r := r) (s := r.alone) he W
  have BR := fun W => build_rc r.c r.hc W
  rw [show Rep.lone r.c r.hc = r.alone from rfl] at BR
  obtain ⟨U, hU⟩ : ∃ U, r.alone.v = U := ⟨_, rfl⟩
  rw [hU] at EQ BR
  clear hU he
  obtain ⟨V, hV⟩ : ∃ V, r.v = V := ⟨_, rfl⟩
  rw [hV] at SV v0 v1 v2 v3 v4 v5 EQ ⊢
  clear hV hs
  go_enter Try.func20, Try.ntmps20
  go_upto_region 1 with fail
  refine F_gen (F := fun W => Code.wp _ _ _ _ W) (J := fun W => Box W (w.heap.size) (V) ∧ Below w.heap.size w W) (And.intro (Box.newc rfl rfl) (by go_grown)) ?_
  intro w0 ⟨e_r, hB0⟩
  have hs0 := hB0.size
  have x_r0 := e_r; clear e_r
  have ca := (x_r0).c 0 _ v0
  have za := (x_r0).lt
  go_wp2_with fail
  refine (CS _).mono ?_
  rintro e w1 ⟨rfl, hb⟩
  clear ca za
  have hB1 : Below w.heap.size w w1 := below_thru hB0 hb
  have hs1 := hB1.size
  have x_r1 : Box w1 (w.heap.size) (V) := Box.below x_r0 hb
  clear hB0 hs0 x_r0
  clear hb
  have ca := (x_r1).c 0 _ v0
  have za := (x_r1).lt
  go_wp2_with (first | (refine wpList_load_box9 rfl _ _ rfl x_r1 rfl Try.underlying26 rfl SV.out ?_) | (refine wpList_build9 rfl 26 _ rfl (us := #[(0, .int .u8 r.c)]) (by rfl) (BR _) ?_))
  go_returns
  exact ⟨rfl, hB1⟩
theorem bare_is (r : Rep) {q : Bool} (hq : Hid (r.Bare ↔ q = true)) (w : World) : Calls Try.prog 20 #[.agg r.v.toArray] w fun e w' => e = .returned (.bool q) ∧ Below w.heap.size w w' := by
  have hf : ¬ r.Bare → q = false := fun h => by
    cases q
    · rfl
    · exact absurd (hq.out.2 rfl) h
  by_cases hs : Sole r.c
  · by_cases he : r = r.alone
    · rw [hq.out.1 ⟨hs, he⟩]
      exact bare_t r hs he w
    · rw [hf (fun h => he h.2)]
      exact bare_f r hs he w
  · rw [hf (fun h => hs h.1)]
    exact bare_n r hs w

/-- What Check answers. -/
theorem Rep.ok_2 {r : Rep} (h : r.c = 2) : r.Ok ↔ r.Ans ∧ r.x = 0 := by
  constructor
  · rintro (⟨_, h2⟩ | ⟨h1, _⟩ | ⟨h1, _⟩)
    · exact h2
    · omega
    · unfold Sole at h1; omega
  · exact fun h2 => Or.inl ⟨h, h2⟩
theorem Rep.ok_3 {r : Rep} (h : r.c = 3) : r.Ok ↔ r.Ans ∧ 1 ≤ r.x := by
  constructor
  · rintro (⟨h1, _⟩ | ⟨_, h2⟩ | ⟨h1, _⟩)
    · omega
    · exact h2
    · unfold Sole at h1; omega
  · exact fun h2 => Or.inr (Or.inl ⟨h, h2⟩)
theorem Rep.ok_n {r : Rep} (h2 : r.c ≠ 2) (h3 : r.c ≠ 3) : r.Ok ↔ r.Bare := by
  constructor
  · rintro (⟨h, _⟩ | ⟨h, _⟩ | h)
    · exact absurd h h2
    · exact absurd h h3
    · exact h
  · exact fun h => Or.inr (Or.inr h)
set_option maxRecDepth 100000 in
set_option maxHeartbeats 1600000 in
theorem chk_2a (r : Rep) (h0 : r.c = 2) (ha : ¬ r.Ans) (w : World) : Calls Try.prog 12 #[.agg r.v.toArray] w fun e w' => e = .returned (.int .i64 8) ∧ Below w.heap.size w w' := by
  have SV := Lib.hid (size_rep r)
  have v0 : r.v[0]? = some (.int .u8 r.c) := rfl
  have v1 : r.v[1]? = some (.int .u32 r.t) := rfl
  have v2 : r.v[2]? = some (.int .u32 r.a) := rfl
  have v3 : r.v[3]? = some (.int .u32 r.b) := rfl
  have v4 : r.v[4]? = some (.int .u32 r.d) := rfl
  have v5 : r.v[5]? = some (.int .u64 r.x) := rfl
  have CI := fun W => ans_is r (q := false) (Lib.hid ⟨fun g => absurd g ha, fun g => by cases g⟩) W
  rw [h0] at v0
  obtain ⟨V, hV⟩ : ∃ V, r.v = V := ⟨_, rfl⟩
  rw [hV] at SV v0 v1 v2 v3 v4 v5 CI ⊢
  clear hV
  go_enter Try.func12, Try.ntmps12
  go_upto_region 1 with fail
  refine F_gen (F := fun W => Code.wp _ _ _ _ W) (J := fun W => Box W (w.heap.size) (V) ∧ Below w.heap.size w W) (And.intro (Box.newc rfl rfl) (by go_grown)) ?_
  intro w0 ⟨e_r, hB0⟩
  have hs0 := hB0.size
  have x_r0 := e_r; clear e_r
  have ca := (x_r0).c 0 _ v0
  have za := (x_r0).lt
  go_wp2_with (refine wpList_load_box9 rfl _ _ rfl x_r0 rfl Try.underlying26 rfl SV.out ?_)
  refine (CI _).mono ?_
  rintro e w1 ⟨rfl, hb⟩
  clear ca za
  have hB1 : Below w.heap.size w w1 := below_thru hB0 hb
  have hs1 := hB1.size
  have x_r1 : Box w1 (w.heap.size) (V) := Box.below x_r0 hb
  clear hB0 hs0 x_r0
  clear hb
  go_wp2_with fail
  go_returns
  exact ⟨rfl, hB1⟩
set_option maxRecDepth 100000 in
set_option maxHeartbeats 1600000 in
theorem chk_2x (r : Rep) (h0 : r.c = 2) (ha : r.Ans) (hx : r.x ≠ 0) (w : World) : Calls Try.prog 12 #[.agg r.v.toArray] w fun e w' => e = .returned (.int .i64 8) ∧ Below w.heap.size w w' := by
  have SV := Lib.hid (size_rep r)
  have v0 : r.v[0]? = some (.int .u8 r.c) := rfl
  have v1 : r.v[1]? = some (.int .u32 r.t) := rfl
  have v2 : r.v[2]? = some (.int .u32 r.a) := rfl
  have v3 : r.v[3]? = some (.int .u32 r.b) := rfl
  have v4 : r.v[4]? = some (.int .u32 r.d) := rfl
  have v5 : r.v[5]? = some (.int .u64 r.x) := rfl
  have CI := fun W => ans_is r (q := true) (Lib.hid ⟨fun _ => rfl, fun _ => ha⟩) W
  have d4 : (r.x == 0) = false := beq_false_of_ne hx
  rw [h0] at v0
  obtain ⟨V, hV⟩ : ∃ V, r.v = V := ⟨_, rfl⟩
  rw [hV] at SV v0 v1 v2 v3 v4 v5 CI ⊢
  clear hV
  go_enter Try.func12, Try.ntmps12
  go_upto_region 1 with fail
  refine F_gen (F := fun W => Code.wp _ _ _ _ W) (J := fun W => Box W (w.heap.size) (V) ∧ Below w.heap.size w W) (And.intro (Box.newc rfl rfl) (by go_grown)) ?_
  intro w0 ⟨e_r, hB0⟩
  have hs0 := hB0.size
  have x_r0 := e_r; clear e_r
  have ca := (x_r0).c 0 _ v0
  have za := (x_r0).lt
  go_wp2_with (refine wpList_load_box9 rfl _ _ rfl x_r0 rfl Try.underlying26 rfl SV.out ?_)
  refine (CI _).mono ?_
  rintro e w1 ⟨rfl, hb⟩
  clear ca za
  have hB1 : Below w.heap.size w w1 := below_thru hB0 hb
  have hs1 := hB1.size
  have x_r1 : Box w1 (w.heap.size) (V) := Box.below x_r0 hb
  clear hB0 hs0 x_r0
  clear hb
  have cb := (x_r1).c 5 _ v5
  have zb := (x_r1).lt
  go_wp2_with fail
  go_returns
  exact ⟨rfl, hB1⟩
set_option maxRecDepth 100000 in
set_option maxHeartbeats 1600000 in
theorem chk_2t (r : Rep) (h0 : r.c = 2) (ha : r.Ans) (hx : r.x = 0) (w : World) : Calls Try.prog 12 #[.agg r.v.toArray] w fun e w' => e = .returned (.int .i64 0) ∧ Below w.heap.size w w' := by
  have SV := Lib.hid (size_rep r)
  have v0 : r.v[0]? = some (.int .u8 r.c) := rfl
  have v1 : r.v[1]? = some (.int .u32 r.t) := rfl
  have v2 : r.v[2]? = some (.int .u32 r.a) := rfl
  have v3 : r.v[3]? = some (.int .u32 r.b) := rfl
  have v4 : r.v[4]? = some (.int .u32 r.d) := rfl
  have v5 : r.v[5]? = some (.int .u64 r.x) := rfl
  have CI := fun W => ans_is r (q := true) (Lib.hid ⟨fun _ => rfl, fun _ => ha⟩) W
  have d4 : (r.x == 0) = true := beq_iff_eq.2 hx
  rw [h0] at v0
  obtain ⟨V, hV⟩ : ∃ V, r.v = V := ⟨_, rfl⟩
  rw [hV] at SV v0 v1 v2 v3 v4 v5 CI ⊢
  clear hV
  go_enter Try.func12, Try.ntmps12
  go_upto_region 1 with fail
  refine F_gen (F := fun W => Code.wp _ _ _ _ W) (J := fun W => Box W (w.heap.size) (V) ∧ Below w.heap.size w W) (And.intro (Box.newc rfl rfl) (by go_grown)) ?_
  intro w0 ⟨e_r, hB0⟩
  have hs0 := hB0.size
  have x_r0 := e_r; clear e_r
  have ca := (x_r0).c 0 _ v0
  have za := (x_r0).lt
  go_wp2_with (refine wpList_load_box9 rfl _ _ rfl x_r0 rfl Try.underlying26 rfl SV.out ?_)
  refine (CI _).mono ?_
  rintro e w1 ⟨rfl, hb⟩
  clear ca za
  have hB1 : Below w.heap.size w w1 := below_thru hB0 hb
  have hs1 := hB1.size
  have x_r1 : Box w1 (w.heap.size) (V) := Box.below x_r0 hb
  clear hB0 hs0 x_r0
  clear hb
  have cb := (x_r1).c 5 _ v5
  have zb := (x_r1).lt
  go_wp2_with fail
  go_returns
  exact ⟨rfl, hB1⟩
set_option maxRecDepth 100000 in
set_option maxHeartbeats 1600000 in
theorem chk_3a (r : Rep) (h0 : r.c = 3) (ha : ¬ r.Ans) (w : World) : Calls Try.prog 12 #[.agg r.v.toArray] w fun e w' => e = .returned (.int .i64 8) ∧ Below w.heap.size w w' := by
  have SV := Lib.hid (size_rep r)
  have v0 : r.v[0]? = some (.int .u8 r.c) := rfl
  have v1 : r.v[1]? = some (.int .u32 r.t) := rfl
  have v2 : r.v[2]? = some (.int .u32 r.a) := rfl
  have v3 : r.v[3]? = some (.int .u32 r.b) := rfl
  have v4 : r.v[4]? = some (.int .u32 r.d) := rfl
  have v5 : r.v[5]? = some (.int .u64 r.x) := rfl
  have CI := fun W => ans_is r (q := false) (Lib.hid ⟨fun g => absurd g ha, fun g => by cases g⟩) W
  rw [h0] at v0
  obtain ⟨V, hV⟩ : ∃ V, r.v = V := ⟨_, rfl⟩
  rw [hV] at SV v0 v1 v2 v3 v4 v5 CI ⊢
  clear hV
  go_enter Try.func12, Try.ntmps12
  go_upto_region 1 with fail
  refine F_gen (F := fun W => Code.wp _ _ _ _ W) (J := fun W => Box W (w.heap.size) (V) ∧ Below w.heap.size w W) (And.intro (Box.newc rfl rfl) (by go_grown)) ?_
  intro w0 ⟨e_r, hB0⟩
  have hs0 := hB0.size
  have x_r0 := e_r; clear e_r
  have ca := (x_r0).c 0 _ v0
  have za := (x_r0).lt
  go_wp2_with (refine wpList_load_box9 rfl _ _ rfl x_r0 rfl Try.underlying26 rfl SV.out ?_)
  refine (CI _).mono ?_
  rintro e w1 ⟨rfl, hb⟩
  clear ca za
  have hB1 : Below w.heap.size w w1 := below_thru hB0 hb
  have hs1 := hB1.size
  have x_r1 : Box w1 (w.heap.size) (V) := Box.below x_r0 hb
  clear hB0 hs0 x_r0
  clear hb
  go_wp2_with fail
  go_returns
  exact ⟨rfl, hB1⟩
set_option maxRecDepth 100000 in
set_option maxHeartbeats 1600000 in
theorem chk_3x (r : Rep) (h0 : r.c = 3) (ha : r.Ans) (hx : ¬ 1 ≤ r.x) (w : World) : Calls Try.prog 12 #[.agg r.v.toArray] w fun e w' => e = .returned (.int .i64 8) ∧ Below w.heap.size w w' := by
  have SV := Lib.hid (size_rep r)
  have v0 : r.v[0]? = some (.int .u8 r.c) := rfl
  have v1 : r.v[1]? = some (.int .u32 r.t) := rfl
  have v2 : r.v[2]? = some (.int .u32 r.a) := rfl
  have v3 : r.v[3]? = some (.int .u32 r.b) := rfl
  have v4 : r.v[4]? = some (.int .u32 r.d) := rfl
  have v5 : r.v[5]? = some (.int .u64 r.x) := rfl
  have CI := fun W => ans_is r (q := true) (Lib.hid ⟨fun _ => rfl, fun _ => ha⟩) W
  have d4 : decide (1 ≤ r.x) = false := decide_eq_false hx
  rw [h0] at v0
  obtain ⟨V, hV⟩ : ∃ V, r.v = V := ⟨_, rfl⟩
  rw [hV] at SV v0 v1 v2 v3 v4 v5 CI ⊢
  clear hV
  go_enter Try.func12, Try.ntmps12
  go_upto_region 1 with fail
  refine F_gen (F := fun W => Code.wp _ _ _ _ W) (J := fun W => Box W (w.heap.size) (V) ∧ Below w.heap.size w W) (And.intro (Box.newc rfl rfl) (by go_grown)) ?_
  intro w0 ⟨e_r, hB0⟩
  have hs0 := hB0.size
  have x_r0 := e_r; clear e_r
  have ca := (x_r0).c 0 _ v0
  have za := (x_r0).lt
  go_wp2_with (refine wpList_load_box9 rfl _ _ rfl x_r0 rfl Try.underlying26 rfl SV.out ?_)
  refine (CI _).mono ?_
  rintro e w1 ⟨rfl, hb⟩
  clear ca za
  have hB1 : Below w.heap.size w w1 := below_thru hB0 hb
  have hs1 := hB1.size
  have x_r1 : Box w1 (w.heap.size) (V) := Box.below x_r0 hb
  clear hB0 hs0 x_r0
  clear hb
  have cb := (x_r1).c 5 _ v5
  have zb := (x_r1).lt
  go_wp2_with fail
  go_returns
  exact ⟨rfl, hB1⟩
set_option maxRecDepth 100000 in
set_option maxHeartbeats 1600000 in
theorem chk_3t (r : Rep) (h0 : r.c = 3) (ha : r.Ans) (hx : 1 ≤ r.x) (w : World) : Calls Try.prog 12 #[.agg r.v.toArray] w fun e w' => e = .returned (.int .i64 0) ∧ Below w.heap.size w w' := by
  have SV := Lib.hid (size_rep r)
  have v0 : r.v[0]? = some (.int .u8 r.c) := rfl
  have v1 : r.v[1]? = some (.int .u32 r.t) := rfl
  have v2 : r.v[2]? = some (.int .u32 r.a) := rfl
  have v3 : r.v[3]? = some (.int .u32 r.b) := rfl
  have v4 : r.v[4]? = some (.int .u32 r.d) := rfl
  have v5 : r.v[5]? = some (.int .u64 r.x) := rfl
  have CI := fun W => ans_is r (q := true) (Lib.hid ⟨fun _ => rfl, fun _ => ha⟩) W
  have d4 : decide (1 ≤ r.x) = true := decide_eq_true hx
  rw [h0] at v0
  obtain ⟨V, hV⟩ : ∃ V, r.v = V := ⟨_, rfl⟩
  rw [hV] at SV v0 v1 v2 v3 v4 v5 CI ⊢
  clear hV
  go_enter Try.func12, Try.ntmps12
  go_upto_region 1 with fail
  refine F_gen (F := fun W => Code.wp _ _ _ _ W) (J := fun W => Box W (w.heap.size) (V) ∧ Below w.heap.size w W) (And.intro (Box.newc rfl rfl) (by go_grown)) ?_
  intro w0 ⟨e_r, hB0⟩
  have hs0 := hB0.size
  have x_r0 := e_r; clear e_r
  have ca := (x_r0).c 0 _ v0
  have za := (x_r0).lt
  go_wp2_with (refine wpList_load_box9 rfl _ _ rfl x_r0 rfl Try.underlying26 rfl SV.out ?_)
  refine (CI _).mono ?_
  rintro e w1 ⟨rfl, hb⟩
  clear ca za
  have hB1 : Below w.heap.size w w1 := below_thru hB0 hb
  have hs1 := hB1.size
  have x_r1 : Box w1 (w.heap.size) (V) := Box.below x_r0 hb
  clear hB0 hs0 x_r0
  clear hb
  have cb := (x_r1).c 5 _ v5
  have zb := (x_r1).lt
  go_wp2_with fail
  go_returns
  exact ⟨rfl, hB1⟩
set_option maxRecDepth 100000 in
set_option maxHeartbeats 1600000 in
theorem chk_nf (r : Rep) (h2 : r.c ≠ 2) (h3 : r.c ≠ 3) (h : ¬ r.Bare) (w : World) : Calls Try.prog 12 #[.agg r.v.toArray] w fun e w' => e = .returned (.int .i64 8) ∧ Below w.heap.size w w' := by
  have SV := Lib.hid (size_rep r)
  have v0 : r.v[0]? = some (.int .u8 r.c) := rfl
  have v1 : r.v[1]? = some (.int .u32 r.t) := rfl
  have v2 : r.v[2]? = some (.int .u32 r.a) := rfl
  have v3 : r.v[3]? = some (.int .u32 r.b) := rfl
  have v4 : r.v[4]? = some (.int .u32 r.d) := rfl
  have v5 : r.v[5]? = some (.int .u64 r.x) := rfl
  have d2 : (r.c == 2) = false := beq_false_of_ne h2
  have d3 : (r.c == 3) = false := beq_false_of_ne h3
  have CI := fun W => bare_is r (q := false) (Lib.hid ⟨fun g => absurd g h, fun g => by cases g⟩) W
  obtain ⟨V, hV⟩ : ∃ V, r.v = V := ⟨_, rfl⟩
  rw [hV] at SV v0 v1 v2 v3 v4 v5 CI ⊢
  clear hV
  go_enter Try.func12, Try.ntmps12
  go_upto_region 1 with fail
  refine F_gen (F := fun W => Code.wp _ _ _ _ W) (J := fun W => Box W (w.heap.size) (V) ∧ Below w.heap.size w W) (And.intro (Box.newc rfl rfl) (by go_grown)) ?_
  intro w0 ⟨e_r, hB0⟩
  have hs0 := hB0.size
  have x_r0 := e_r; clear e_r
  have ca := (x_r0).c 0 _ v0
  have za := (x_r0).lt
  go_wp2_with (refine wpList_load_box9 rfl _ _ rfl x_r0 rfl Try.underlying26 rfl SV.out ?_)
  refine (CI _).mono ?_
  rintro e w1 ⟨rfl, hb⟩
  clear ca za
  have hB1 : Below w.heap.size w w1 := below_thru hB0 hb
  have hs1 := hB1.size
  have x_r1 : Box w1 (w.heap.size) (V) := Box.below x_r0 hb
  clear hB0 hs0 x_r0
  clear hb
  go_wp2_with fail
  go_returns
  exact ⟨rfl, hB1⟩
set_option maxRecDepth 100000 in
set_option maxHeartbeats 1600000 in
theorem chk_nt (r : Rep) (h2 : r.c ≠ 2) (h3 : r.c ≠ 3) (h : r.Bare) (w : World) : Calls Try.prog 12 #[.agg r.v.toArray] w fun e w' => e = .returned (.int .i64 0) ∧ Below w.heap.size w w' := by
  have SV := Lib.hid (size_rep r)
  have v0 : r.v[0]? = some (.int .u8 r.c) := rfl
  have v1 : r.v[1]? = some (.int .u32 r.t) := rfl
  have v2 : r.v[2]? = some (.int .u32 r.a) := rfl
  have v3 : r.v[3]? = some (.int .u32 r.b) := rfl
  have v4 : r.v[4]? = some (.int .u32 r.d) := rfl
  have v5 : r.v[5]? = some (.int .u64 r.x) := rfl
  have d2 : (r.c == 2) = false := beq_false_of_ne h2
  have d3 : (r.c == 3) = false := beq_false_of_ne h3
  have CI := fun W => bare_is r (q := true) (Lib.hid ⟨fun _ => rfl, fun _ => h⟩) W
  obtain ⟨V, hV⟩ : ∃ V, r.v = V := ⟨_, rfl⟩
  rw [hV] at SV v0 v1 v2 v3 v4 v5 CI ⊢
  clear hV
  go_enter Try.func12, Try.ntmps12
  go_upto_region 1 with fail
  refine F_gen (F := fun W => Code.wp _ _ _ _ W) (J := fun W => Box W (w.heap.size) (V) ∧ Below w.heap.size w W) (And.intro (Box.newc rfl rfl) (by go_grown)) ?_
  intro w0 ⟨e_r, hB0⟩
  have hs0 := hB0.size
  have x_r0 := e_r; clear e_r
  have ca := (x_r0).c 0 _ v0
  have za := (x_r0).lt
  go_wp2_with (refine wpList_load_box9 rfl _ _ rfl x_r0 rfl Try.underlying26 rfl SV.out ?_)
  refine (CI _).mono ?_
  rintro e w1 ⟨rfl, hb⟩
  clear ca za
  have hB1 : Below w.heap.size w w1 := below_thru hB0 hb
  have hs1 := hB1.size
  have x_r1 : Box w1 (w.heap.size) (V) := Box.below x_r0 hb
  clear hB0 hs0 x_r0
  clear hb
  go_wp2_with fail
  go_returns
  exact ⟨rfl, hB1⟩
def ChkE (r : Rep) (q : Int) : Prop := (q = 0 ∧ r.Ok) ∨ (q = 8 ∧ ¬ r.Ok)
theorem chk_is (r : Rep) {q : Int} (hq : Hid (ChkE r q)) (w : World) : Calls Try.prog 12 #[.agg r.v.toArray] w fun e w' => e = .returned (.int .i64 q) ∧ Below w.heap.size w w' := by
  have h := hq.out
  clear hq
  have ht : r.Ok → q = 0 := fun g => by rcases h with ⟨h, _⟩ | ⟨_, h⟩; exact h; exact absurd g h
  have hf : ¬ r.Ok → q = 8 := fun g => by rcases h with ⟨_, h⟩ | ⟨h, _⟩; exact absurd h g; exact h
  clear h
  by_cases h2 : r.c = 2
  · by_cases ha : r.Ans
    · by_cases hx : r.x = 0
      · rw [ht ((Rep.ok_2 h2).2 ⟨ha, hx⟩)]
        exact chk_2t r h2 ha hx w
      · rw [hf (fun g => hx ((Rep.ok_2 h2).1 g).2)]
        exact chk_2x r h2 ha hx w
    · rw [hf (fun g => ha ((Rep.ok_2 h2).1 g).1)]
      exact chk_2a r h2 ha w
  by_cases h3 : r.c = 3
  · by_cases ha : r.Ans
    · by_cases hx : 1 ≤ r.x
      · rw [ht ((Rep.ok_3 h3).2 ⟨ha, hx⟩)]
        exact chk_3t r h3 ha hx w
      · rw [hf (fun g => hx ((Rep.ok_3 h3).1 g).2)]
        exact chk_3x r h3 ha hx w
    · rw [hf (fun g => ha ((Rep.ok_3 h3).1 g).1)]
      exact chk_3a r h3 ha w
  by_cases hb : r.Bare
  · rw [ht ((Rep.ok_n h2 h3).2 hb)]
    exact chk_nt r h2 h3 hb w
  · rw [hf (fun g => hb ((Rep.ok_n h2 h3).1 g))]
    exact chk_nf r h2 h3 hb w

end Go.Proofs.Ytipkgflonioacaa
