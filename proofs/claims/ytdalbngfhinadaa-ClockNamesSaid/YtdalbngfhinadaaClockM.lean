/-
  clock.Merge, walked: the merged ticks of two rising lists.
-/
import Derived.Test.YtdalbngfhinadaaClockB
namespace Go.Proofs.Ytdalbngfhinadaa
open Go.RowKit

/-- The merged lists. -/
def mg (xs ys : List Int) : List Int := List.merge xs ys (fun a b => decide (a ≤ b))
theorem mg_nil_left (ys : List Int) : mg [] ys = ys := by unfold mg; exact List.nil_merge ys
theorem mg_nil_right (xs : List Int) : mg xs [] = xs := by unfold mg; exact List.merge_right xs
theorem mg_left (x y : Int) (xs ys : List Int) (h : x ≤ y) : mg (x :: xs) (y :: ys) = x :: mg xs (y :: ys) := by
  unfold mg; rw [List.cons_merge_cons, if_pos (by simpa using h)]
theorem mg_right (x y : Int) (xs ys : List Int) (h : ¬ x ≤ y) : mg (x :: xs) (y :: ys) = y :: mg (x :: xs) ys := by
  unfold mg; rw [List.cons_merge_cons, if_neg (by simpa using h)]
theorem mg_len (xs ys : List Int) : (mg xs ys).length = xs.length + ys.length := by unfold mg; simp [List.length_merge]

theorem sorted_is (at0 : Option Addr) (cap : Nat) (xs : List Int) (b : Bool) (h : Hid (risB xs = b)) (w : World) (hi : Ints w .u64 at0 cap xs) :
    Calls Try.prog 29 #[.slice at0 xs.length cap] w fun e w' => e = .returned (.bool b) ∧ ∃ n, w' = w.drewN n := by
  have := sorted_any at0 cap xs w hi
  rw [h.out] at this
  exact this

/-- A slice that is what is left of a list. -/
structure Left (w : World) (v : Value) (n : Nat) (xs : List Int) : Prop where
  len : xs.length = n
  is : ∃ at0 cap, v = .slice at0 n cap ∧ Ints w .u64 at0 cap xs

theorem Left.cons {w : World} {v : Value} {n : Nat} {x : Int} {xs : List Int} (h : Left w v n (x :: xs)) : ∃ b off cap m, n = m + 1 ∧ v = .slice (some ⟨b, off, none⟩) (m + 1) (cap + 1) ∧ m ≤ cap ∧ cap < 9223372036854775807 ∧ w.cell? ⟨b, off, none⟩ = some (.int .u64 x) ∧
    Left w (.slice (if cap = 0 then some ⟨b, off, none⟩ else some ⟨b, off + 1, none⟩) m cap) m xs := by
  obtain ⟨hl, at0, cap, rfl, hi⟩ := h
  obtain ⟨b, off, rfl, hc⟩ := hi.cells (by simp)
  have hr := hi.room
  have hm := hi.most
  simp at hr hl
  refine ⟨b, off, cap - 1, xs.length, by omega, by rw [← hl, Nat.sub_add_cancel (by omega)], by omega, by omega, by have := hc 0 (by simp); simpa [nth] using this, rfl, _, _, rfl, by omega, by omega, fun h0 => ?_⟩
  refine ⟨b, off + 1, by rw [if_neg (by omega)], fun i hi => ?_⟩
  have := hc (i + 1) (by simp; omega)
  rw [show off + 1 + i = off + (i + 1) by omega]
  exact this

theorem own_not {w' : World} {B e n b : Nat} {v : Value} {l : List Value} (h : w'.ownsRow B e 1 v n l) (hb : b < B) : v.ownBlock ≠ some b := fun q => by
  have := own_block h b q
  omega
theorem cell_below' {w w' : World} {b o : Nat} {v : Value} (hb : Below w.heap.size w w') (h : w.cell? ⟨b, o, none⟩ = some v) : w'.cell? ⟨b, o, none⟩ = some v := by
  rw [hb.cell (p := ⟨b, o, none⟩) (lt_of_cell' h)]; exact h

set_option maxRecDepth 100000 in
set_option maxHeartbeats 1600000 in
theorem merge_ok (at1 at2 : Option Addr) (cap1 cap2 : Nat) (xs ys : List Int) (w : World) (h1 : Ints w .u64 at1 cap1 xs) (h2 : Ints w .u64 at2 cap2 ys) (l1 : xs.length ≤ 200) (l2 : ys.length ≤ 200) (s1 : Hid (risB xs = true)) (s2 : Hid (risB ys = true)) :
    Calls Try.prog 13 #[.slice at1 xs.length cap1, .slice at2 ys.length cap2] w fun e w' =>
      ∃ v, e = .returned (.tuple #[v, .int .i64 0]) ∧ w'.ownsRow w.heap.size 26 1 v (xs.length + ys.length) ((mg xs ys).map (Value.int .u64)) ∧ Below w.heap.size w w' := by
  have m1 := h1.most
  have r1 := h1.room
  have m2 := h2.most
  have r2 := h2.room
  have H1 := Lib.hid h1
  have H2 := Lib.hid h2
  clear h1 h2
  have d1 : decide ((200 : Int) < (xs.length : Int)) = false := decide_eq_false (by omega)
  have d2 : decide ((200 : Int) < (ys.length : Int)) = false := decide_eq_false (by omega)
  obtain ⟨i0, hin, hz0, hz1, hz2⟩ := info_parts info_u64
  go_enter Try.func13, Try.ntmps13
  go_wp2_with fail
  refine (sorted_is at1 cap1 xs true s1 _ H1.out).mono ?_
  rintro e _ ⟨rfl, n1, hw1⟩
  have hw1' := Lib.hid hw1
  clear hw1
  go_wp2_with fail
  refine (sorted_is at2 cap2 ys true s2 _ (by rw [hw1'.out]; exact H2.out.drewN n1)).mono ?_
  rintro e w2 ⟨rfl, n2, hw2⟩
  have hw2' : Hid (∃ n, w2 = w.drewN n) := Lib.hid ⟨_, by rw [hw2, hw1'.out]; exact World.drewN_drewN _ _ _⟩
  clear hw2 hw1'
  go_wp2_with fail
  have hB2 : Below w.heap.size w w2 := by
    obtain ⟨n, rfl⟩ := hw2'.out
    exact below_drewN' (Below.refl _ _) n
  go_loopw [0, 1, 6, 28] (fun s0 s1 v i wr => ∃ (us vs pre : List Int) (n0 n1 : Nat), Left w s0 n0 us ∧ Left w s1 n1 vs ∧ i = .int .i64 pre.length ∧ Hid (pre.length + n0 + n1 = xs.length + ys.length) ∧ Hid (mg xs ys = pre ++ mg us vs) ∧
    wr.ownsRow w.heap.size 26 1 v pre.length (pre.map (Value.int .u64)) ∧ Below w.heap.size w wr) (fun _ _ _ i _ => xs.length + ys.length - (intOf i).toNat)
  case atStart => exact ⟨xs, ys, [], _, _, ⟨rfl, _, _, rfl, H1.out⟩, ⟨rfl, _, _, rfl, H2.out⟩, rfl, Lib.hid (by simp), Lib.hid (by simp), ⟨rfl, Or.inl ⟨rfl, rfl⟩⟩, hB2⟩
  case round =>
    obtain ⟨us, vs, pre, n0, n1, L1, L2, rfl, hn, hg, hown, hB⟩ := hrel
    have hs := hB.size
    cases us with
    | nil =>
      obtain ⟨e1, a1, c1, rfl, I1⟩ := L1
      simp at e1
      subst e1
      cases vs with
      | nil =>
        obtain ⟨e2, a2, c2, rfl, I2⟩ := L2
        simp at e2
        subst e2
        have hge : pre.length = xs.length + ys.length := by have := hn.out; omega
        have HE : Hid (mg xs ys = pre) := Lib.hid (by rw [hg.out, mg_nil_right]; simp)
        have z0 : decide ((pre.length : Int) < (xs.length : Int) + (ys.length : Int)) = false := decide_eq_false (by omega)
        have HG := Lib.hid hge
        clear hge
        go_wp2_with fail
        go_returns
        exact ⟨_, rfl, by rw [HE.out, ← HG.out]; exact hown, hB⟩
      | cons y vs =>
        have LL0 := Lib.hid (show Left w (.slice a1 0 c1) 0 [] from ⟨rfl, _, _, rfl, I1⟩)
        obtain ⟨b2, o2, k2, p2, rfl, rfl, q2, q2', hc2, L2'⟩ := L2.cons
        have hb2 := lt_of_cell' hc2
        have hcw2 := cell_below' hB hc2
        have HL2 := Lib.hid L2'
        clear L2 L2' hc2
        have hlt : pre.length < xs.length + ys.length := by have := hn.out; omega
        have z2 : (0 : Int) ≤ (p2 : Int) := by omega
        have z3 : (((p2 : Nat) : Int) + 1 == 0) = false := beq_eq_false_iff_ne.2 (by omega)
        go_wp2_with fail
        go_quiet (fail)
        go_wp2_with fail
        obtain ⟨W, hW⟩ : ∃ W, wr.drewN nq = W := ⟨_, rfl⟩
        rw [hW]
        have hownW := owns_drewN hown nq
        rw [hW] at hownW
        have hBW : Below w.heap.size w W := by rw [← hW]; exact below_drewN' hB nq
        have hcW : W.cell? ⟨b2, o2, none⟩ = some (.int .u64 y) := by rw [← hW]; exact hcw2
        have hsW := hBW.size
        have hl : pre.length + 1 ≤ 400 := by omega
        have hfar := own_not hownW hb2
        have z1 : (1 : Int) ≤ (p2 : Int) + 1 := by omega
        clear hW hown hB hcw2 hs
        go_region_held3 (fun w' => w'.cell? ⟨b2, o2, none⟩ = some (.int .u64 y))
          (first
            | go_keep
            | (rw [hgrow.cell_far _ (by simp; omega) (Ne.symm hfar)]; assumption))
          ((refine step_append_lies _ (by rfl) _ _ _ (by rfl) w.heap.size 26 i0 _ 1 8 Try.underlying22 hin hz0 hz1 hz2 rfl (by omega) _ pre.length _ (by rfl) ((hownW.alloc _).drew)
              ⟨W.heap.size, 0, none⟩ 1 1 [.int .u64 y] (by rfl) (by rfl) (World.news_of_block (cs := #[.int .u64 y]) (t := 26) (fr := (0, 0)) (heap_alloc_new W _)) (by simp [Value.oneCell'])
              (by omega) (by unfold maxLen; omega) (by omega) (by simp; omega) (W.heap.size + 1) (by simp) ?_; intro gg cap w9 hown9 hgrow hat hlt9))
        all_goals go_wp2_with fail
        go_roundw
        case rel => exact ⟨[], vs, pre ++ [y], 0, p2, LL0.out, HL2.out, by simp, Lib.hid (by have := hn.out; simp; omega), Lib.hid (by rw [hg.out, mg_nil_left, mg_nil_left]; simp), by simpa using hown9, ((hBW.alloc hsW _).drew).grown hgrow (by simp; omega) (own_block hownW)⟩
        case measure => simp [intOf]; omega
    | cons x us =>
      have LL0 := Lib.hid L1
      obtain ⟨b1, o1, k1, p1, rfl, rfl, q1, q1', hc1, L1'⟩ := L1.cons
      have hb1 := lt_of_cell' hc1
      have hcw1 := cell_below' hB hc1
      have HL1 := Lib.hid L1'
      clear L1 L1' hc1
      cases vs with
      | nil =>
        obtain ⟨e2, a2, c2, rfl, I2⟩ := L2
        simp at e2
        subst e2
        have hlt : pre.length < xs.length + ys.length := by have := hn.out; omega
        have z0 : (0 : Int) ≤ (p1 : Int) := by omega
        go_wp2_with fail
        go_quiet (fail)
        go_wp2_with fail
        obtain ⟨W, hW⟩ : ∃ W, wr.drewN nq = W := ⟨_, rfl⟩
        rw [hW]
        have hownW := owns_drewN hown nq
        rw [hW] at hownW
        have hBW : Below w.heap.size w W := by rw [← hW]; exact below_drewN' hB nq
        have hcW : W.cell? ⟨b1, o1, none⟩ = some (.int .u64 x) := by rw [← hW]; exact hcw1
        have hsW := hBW.size
        have hl : pre.length + 1 ≤ 400 := by omega
        have hfar := own_not hownW hb1
        have z1 : (1 : Int) ≤ (p1 : Int) + 1 := by omega
        clear hW hown hB hcw1 hs
        go_region_held3 (fun w' => w'.cell? ⟨b1, o1, none⟩ = some (.int .u64 x))
          (first
            | go_keep
            | (rw [hgrow.cell_far _ (by simp; omega) (Ne.symm hfar)]; assumption))
          ((refine step_append_lies _ (by rfl) _ _ _ (by rfl) w.heap.size 26 i0 _ 1 8 Try.underlying22 hin hz0 hz1 hz2 rfl (by omega) _ pre.length _ (by rfl) ((hownW.alloc _).drew)
              ⟨W.heap.size, 0, none⟩ 1 1 [.int .u64 x] (by rfl) (by rfl) (World.news_of_block (cs := #[.int .u64 x]) (t := 26) (fr := (0, 0)) (heap_alloc_new W _)) (by simp [Value.oneCell'])
              (by omega) (by unfold maxLen; omega) (by omega) (by simp; omega) (W.heap.size + 1) (by simp) ?_; intro gg cap w9 hown9 hgrow hat hlt9))
        all_goals go_wp2_with fail
        go_roundw
        case rel => exact ⟨us, [], pre ++ [x], p1, 0, HL1.out, ⟨rfl, a2, c2, rfl, I2⟩, by simp, Lib.hid (by have := hn.out; simp; omega), Lib.hid (by rw [hg.out, mg_nil_right, mg_nil_right]; simp), by simpa using hown9, ((hBW.alloc hsW _).drew).grown hgrow (by simp; omega) (own_block hownW)⟩
        case measure => simp [intOf]; omega
      | cons y vs =>
        have LL2 := Lib.hid L2
        obtain ⟨b2, o2, k2, p2, rfl, rfl, q2, q2', hc2, L2'⟩ := L2.cons
        have hb2 := lt_of_cell' hc2
        have hcw2 := cell_below' hB hc2
        have HL2 := Lib.hid L2'
        clear L2 L2' hc2
        have hlt : pre.length < xs.length + ys.length := by have := hn.out; omega
        have z0 : (0 : Int) ≤ (p1 : Int) := by omega
        have z2 : (0 : Int) ≤ (p2 : Int) := by omega
        have z3 : (((p2 : Nat) : Int) + 1 == 0) = false := beq_eq_false_iff_ne.2 (by omega)
        have z4 : decide ((0 : Int) < (p1 : Int) + 1) = true := decide_eq_true (by omega)
        by_cases h : x ≤ y
        · have hd : decide (x ≤ y) = true := decide_eq_true h
          have HM := Lib.hid (mg_left x y us vs h)
          clear h
          go_wp2_with fail
          go_quiet (fail)
          go_wp2_with fail
          obtain ⟨W, hW⟩ : ∃ W, wr.drewN nq = W := ⟨_, rfl⟩
          rw [hW]
          have hownW := owns_drewN hown nq
          rw [hW] at hownW
          have hBW : Below w.heap.size w W := by rw [← hW]; exact below_drewN' hB nq
          have hcW : W.cell? ⟨b1, o1, none⟩ = some (.int .u64 x) := by rw [← hW]; exact hcw1
          have hsW := hBW.size
          have hl : pre.length + 1 ≤ 400 := by omega
          have hfar := own_not hownW hb1
          have z1 : (1 : Int) ≤ (p1 : Int) + 1 := by omega
          clear hW hown hB hcw1 hs
          go_region_held3 (fun w' => w'.cell? ⟨b1, o1, none⟩ = some (.int .u64 x))
            (first
              | go_keep
              | (rw [hgrow.cell_far _ (by simp; omega) (Ne.symm hfar)]; assumption))
            ((refine step_append_lies _ (by rfl) _ _ _ (by rfl) w.heap.size 26 i0 _ 1 8 Try.underlying22 hin hz0 hz1 hz2 rfl (by omega) _ pre.length _ (by rfl) ((hownW.alloc _).drew)
                ⟨W.heap.size, 0, none⟩ 1 1 [.int .u64 x] (by rfl) (by rfl) (World.news_of_block (cs := #[.int .u64 x]) (t := 26) (fr := (0, 0)) (heap_alloc_new W _)) (by simp [Value.oneCell'])
                (by omega) (by unfold maxLen; omega) (by omega) (by simp; omega) (W.heap.size + 1) (by simp) ?_; intro gg cap w9 hown9 hgrow hat hlt9))
          all_goals go_wp2_with fail
          go_roundw
          case rel => exact ⟨us, y :: vs, pre ++ [x], p1, p2 + 1, HL1.out, LL2.out, by simp, Lib.hid (by have := hn.out; simp; omega), Lib.hid (by rw [hg.out, HM.out]; simp), by simpa using hown9, ((hBW.alloc hsW _).drew).grown hgrow (by simp; omega) (own_block hownW)⟩
          case measure => simp [intOf]; omega
        · have hd : decide (x ≤ y) = false := decide_eq_false h
          have HM := Lib.hid (mg_right x y us vs h)
          clear h
          go_wp2_with fail
          go_quiet (fail)
          go_wp2_with fail
          obtain ⟨W, hW⟩ : ∃ W, wr.drewN nq = W := ⟨_, rfl⟩
          rw [hW]
          have hownW := owns_drewN hown nq
          rw [hW] at hownW
          have hBW : Below w.heap.size w W := by rw [← hW]; exact below_drewN' hB nq
          have hcW : W.cell? ⟨b2, o2, none⟩ = some (.int .u64 y) := by rw [← hW]; exact hcw2
          have hsW := hBW.size
          have hl : pre.length + 1 ≤ 400 := by omega
          have hfar := own_not hownW hb2
          have z1 : (1 : Int) ≤ (p2 : Int) + 1 := by omega
          clear hW hown hB hcw2 hs
          go_region_held3 (fun w' => w'.cell? ⟨b2, o2, none⟩ = some (.int .u64 y))
            (first
              | go_keep
              | (rw [hgrow.cell_far _ (by simp; omega) (Ne.symm hfar)]; assumption))
            ((refine step_append_lies _ (by rfl) _ _ _ (by rfl) w.heap.size 26 i0 _ 1 8 Try.underlying22 hin hz0 hz1 hz2 rfl (by omega) _ pre.length _ (by rfl) ((hownW.alloc _).drew)
                ⟨W.heap.size, 0, none⟩ 1 1 [.int .u64 y] (by rfl) (by rfl) (World.news_of_block (cs := #[.int .u64 y]) (t := 26) (fr := (0, 0)) (heap_alloc_new W _)) (by simp [Value.oneCell'])
                (by omega) (by unfold maxLen; omega) (by omega) (by simp; omega) (W.heap.size + 1) (by simp) ?_; intro gg cap w9 hown9 hgrow hat hlt9))
          all_goals go_wp2_with fail
          go_roundw
          case rel => exact ⟨x :: us, vs, pre ++ [y], p1 + 1, p2, LL0.out, HL2.out, by simp, Lib.hid (by have := hn.out; simp; omega), Lib.hid (by rw [hg.out, HM.out]; simp), by simpa using hown9, ((hBW.alloc hsW _).drew).grown hgrow (by simp; omega) (own_block hownW)⟩
          case measure => simp [intOf]; omega

end Go.Proofs.Ytdalbngfhinadaa
