/-
  Package clock, walked: the iterator over clamped ticks, and what goes over it; differences and sums.
-/
import Derived.Test.YtmpcpflpcfanjaaRef02B
import Derived.RangeFuncBox
import Derived.RangeFuncNested
import Derived.RangeFuncBound
import Derived.RangeFuncCalls
import Derived.RangeFuncLeaves
import Derived.Shelf.Abstract
import Derived.Shelf.RegionOpen
import Derived.WalkKit
import Derived.OwnWalkIn
import Derived.TacticsInMore
import Derived.LoopNIn
import Derived.LoopIn
import Derived.Maps.AppendAt
import Derived.WalkLawsBesides
namespace Go.Proofs.Ytmpcpflpcfanjaa
open Go.RowKit Go.Shelf

attribute [local go_sem] Oper.semAt_some

def mx (a b : Int) : Int := if a < b then b else a
/-- What the iterator gives. -/
def cpV (now : Int) (xs : List Int) (k : Fin xs.length) : Array Value := #[.int .i64 (k.val : Int), .int .u64 (gr now (xs.take (k.val + 1)))]
theorem gr_step (now : Int) (xs : List Int) (k : Nat) (h : k < xs.length) : mx (gr now (xs.take k)) (nth xs k) = gr now (xs.take (k + 1)) := by
  rw [take_succ_nth h, gr_snoc]
  rfl

theorem clamp_in (F : Fence) (n : Nat) (h : F.fn 85) (hro : F.round = none) (a b : Int) (w : World) :
    CallsIn F n Try.prog 85 #[.int .u64 a, .int .u64 b] w fun e w' => e = .returned (.int .u64 (mx a b)) ∧ w' = w := by
  by_cases hab : a < b
  · have e1 := Lib.hid (show mx a b = b from if_pos hab)
    refine callsIn_of_wp Try.func85 rfl h ?_ hro
    simp only [Try.ntmps85, List.size_toArray, List.length_cons, List.length_nil, Nat.reduceAdd, Nat.reduceSub, Array.replicate_succ, Array.replicate_zero, List.push_toArray, List.append_toArray, List.nil_append, List.cons_append]
    gi_wp2
    go_ret
    exact ⟨by rw [e1.out]; rfl, rfl⟩
  · have e1 := Lib.hid (show mx a b = a from if_neg hab)
    refine callsIn_of_wp Try.func85 rfl h ?_ hro
    simp only [Try.ntmps85, List.size_toArray, List.length_cons, List.length_nil, Nat.reduceAdd, Nat.reduceSub, Array.replicate_succ, Array.replicate_zero, List.push_toArray, List.append_toArray, List.nil_append, List.cons_append]
    gi_wp2
    go_ret
    exact ⟨by rw [e1.out]; rfl, rfl⟩

theorem clamped_in (F : Fence) (n : Nat) (h : F.fn 68) (hro : F.round = none) (now : Int) (at0 : Option Addr) (len cap : Nat) (w : World) :
    CallsIn F n Try.prog 68 #[.int .u64 now, .slice at0 len cap] w fun e w' => e = .returned (.func (.func 84) #[] #[.pointer (some ⟨w.heap.size, 0, none⟩), .pointer (some ⟨w.heap.size + 1, 0, none⟩)]) ∧
      w' = (w.alloc (.cells #[.int .u64 now] 24)).alloc (.cells #[.slice at0 len cap] 27) := by
  refine callsIn_of_wp Try.func68 rfl h ?_ hro
  simp only [Try.ntmps68, List.size_toArray, List.length_cons, List.length_nil, Nat.reduceAdd, Nat.reduceSub, Array.replicate_succ, Array.replicate_zero, List.push_toArray, List.append_toArray, List.nil_append, List.cons_append]
  gi_wp2
  go_ret
  exact ⟨rfl, rfl⟩

set_option maxRecDepth 100000 in
set_option maxHeartbeats 2000000 in
theorem clamped1_in (F : Fence) (n : Nat) (h : F.fn 84) (h14 : F.fn 85) (hro : F.round = none) (hn : 1 ≤ n) (l Bt Bs n₀ : Nat) (now : Int) (at0 : Option Addr) (cap : Nat) (xs : List Int) (hr : xs.length ≤ cap) (hm : cap ≤ 9223372036854775807) (J Jx : List (Fin xs.length) → World → Prop)
    (hY : ∀ pre x W, J pre W → pre.length < xs.length → YieldAt F (n - 1) Try.prog l (cpV now xs x) W fun e W' =>
      (e = .returned (.bool true) ∧ J (pre ++ [x]) W' ∧ Below n₀ W W') ∨ (e = .returned (.bool false) ∧ Jx (pre ++ [x]) W'))
    (W : World) (hBt : W.cell? ⟨Bt, 0, none⟩ = some (.int .u64 now)) (hBs : W.cell? ⟨Bs, 0, none⟩ = some (.slice at0 xs.length cap))
    (hc : 0 < xs.length → ∃ b off, b < n₀ ∧ at0 = some ⟨b, off, none⟩ ∧ ∀ i, i < xs.length → W.cell? ⟨b, off + i, none⟩ = some (.int .u64 (nth xs i))) (h0 : J [] W) :
    CallsIn F n Try.prog 84 #[.func (.yield l) #[] #[], .pointer (some ⟨Bt, 0, none⟩), .pointer (some ⟨Bs, 0, none⟩)] W fun e W' => (∃ v, e = .returned v) ∧
      ((∃ ys, ys.map (·.val) = List.range xs.length ∧ J ys W') ∨ (∃ pre, True ∧ Jx pre W')) := by
  refine callsIn_of_wp Try.func84 rfl h ?_ hro
  simp only [Try.ntmps84, List.size_toArray, List.length_cons, List.length_nil, Nat.reduceAdd, Nat.reduceSub, Array.replicate_succ, Array.replicate_zero, List.push_toArray, List.append_toArray, List.nil_append, List.cons_append]
  gi_wp2
  gi_loopw [4, 10] (fun t i wr => ∃ (k : Nat) (pre : List (Fin xs.length)), k ≤ xs.length ∧ i = .int .i64 k ∧ t = .int .u64 (gr now (xs.take k)) ∧ Hid (pre.map (·.val) = List.range k) ∧ J pre wr ∧ Below n₀ W wr)
    (fun _ i _ => xs.length - (intOf i).toNat)
  case atStart => exact ⟨0, [], Nat.zero_le _, rfl, rfl, Lib.hid rfl, h0, Below.refl _ _⟩
  case round =>
    obtain ⟨k, pre, hk, rfl, rfl, hpre, hJs, hnx⟩ := hrel
    by_cases hlt : k < xs.length
    · obtain ⟨b, off, hb, e1, hcs⟩ := hc (by omega)
      subst e1
      have hcx := (hnx.cell (p := ⟨b, off + k, none⟩) hb).trans (hcs k hlt)
      have HG := Lib.hid (gr_step now xs k hlt)
      obtain ⟨g, hg⟩ : ∃ g, gr now (xs.take (k + 1)) = g := ⟨_, rfl⟩
      rw [hg] at HG
      obtain ⟨fn, tmps, assign, body, hy, hR⟩ := hY pre ⟨k, hlt⟩ wr hJs (by have := congrArg List.length hpre.out; simp at this; omega)
      have HG2 := Lib.hid hg
      unfold cpV at hy
      dsimp only at hy
      rw [HG2.out] at hy
      clear hg hcs hc hJs hBs hBt hY
      gi_wp2_with (gi_at_call 85; refine (clamp_in F (n - 1) h14 hro _ _ _).mono ?_; rintro e w' ⟨rfl, rfl⟩; rw [HG.out])
      refine hR.mono ?_
      rintro e W3 (⟨rfl, hJ3, hk3⟩ | ⟨rfl, hJx3⟩)
      · gi_wp2
        go_roundw
        case rel => exact ⟨k + 1, pre ++ [⟨k, hlt⟩], by omega, by simp, by rw [HG2.out], Lib.hid (by rw [List.map_append, hpre.out, List.range_succ]; rfl), hJ3, hnx.trans hk3⟩
        case measure => simp [intOf]; omega
      · gi_wp2
        refine bodyPost_ret (results_none rfl _ _ _) rfl ?_
        exact ⟨⟨_, rfl⟩, .inr ⟨_, trivial, hJx3⟩⟩
    · obtain rfl : k = xs.length := by omega
      gi_wp2
      go_end0
      exact ⟨⟨_, rfl⟩, .inl ⟨_, hpre.out, hJs⟩⟩

theorem clamped_stops (F : Fence) (n : Nat) (h : F.fn 84) (h14 : F.fn 85) (hro : F.round = none) (hn : 1 ≤ n) (Bt Bs n₀ : Nat) (now : Int) (at0 : Option Addr) (cap : Nat) (xs : List Int) (w : World)
    (hi : Ints w .u64 at0 cap xs) (hlt : ∀ b off, 0 < xs.length → at0 = some ⟨b, off, none⟩ → b < n₀) (hBt : w.cell? ⟨Bt, 0, none⟩ = some (.int .u64 now)) (hBs : w.cell? ⟨Bs, 0, none⟩ = some (.slice at0 xs.length cap)) :
    SeqStopsK F n Try.prog 84 #[.pointer (some ⟨Bt, 0, none⟩), .pointer (some ⟨Bs, 0, none⟩)] (cpV now xs) (Below n₀) (fun ys => ys.map (·.val) = List.range xs.length)
      (fun _ => True) xs.length w := fun l J Jx W hW _ _ hY h0 => by
  have hi' := hi.below hW
  refine clamped1_in F n h h14 hro hn l Bt Bs n₀ now at0 cap xs hi.room (by have := hi.most; omega) J Jx hY W ((hW.cell (p := ⟨Bt, 0, none⟩) (lt_of_cell' hBt)).trans hBt) ((hW.cell (p := ⟨Bs, 0, none⟩) (lt_of_cell' hBs)).trans hBs) (fun h0 => ?_) h0
  obtain ⟨b, off, e, hc⟩ := hi'.cells h0
  exact ⟨b, off, hlt b off h0 e, e, hc⟩

def sndV (now : Int) (xs : List Int) (pre : List (Fin xs.length)) : List Value := pre.map fun k => Value.int .u64 (gr now (xs.take (k.val + 1)))
theorem sndV_snoc (now : Int) (xs : List Int) (pre : List (Fin xs.length)) (x : Fin xs.length) : sndV now xs (pre ++ [x]) = sndV now xs pre ++ [.int .u64 (gr now (xs.take (x.val + 1)))] := by simp [sndV]
theorem sndV_all (now : Int) (xs : List Int) (ys : List (Fin xs.length)) (h : ys.map (·.val) = List.range xs.length) : sndV now xs ys = (cl now xs xs.length).map (Value.int .u64) := by
  unfold sndV cl
  rw [← h]
  simp

set_option maxRecDepth 100000 in
set_option maxHeartbeats 2000000 in
theorem clamps_in (F : Fence) (n : Nat) (h9 : F.fn 40) (h28 : F.fn 68) (h30 : F.fn 84) (h14 : F.fn 85) (hro : F.round = none) (hn : 3 ≤ n)
    (now : Int) (at0 : Option Addr) (cap : Nat) (xs : List Int) (w : World) (hi : Ints w .u64 at0 cap xs) (hl : xs.length ≤ 200) :
    CallsIn F n Try.prog 40 #[.int .u64 now, .slice at0 xs.length cap] w fun e w' =>
      ∃ v, e = .returned (.tuple #[v, .int .i64 0]) ∧ w'.ownsRow w.heap.size 24 1 v xs.length ((cl now xs xs.length).map (Value.int .u64)) ∧ Below w.heap.size w w' := by
  have h1 : 1 ≤ n := by omega
  have hm := hi.most
  have hr := hi.room
  have HI := Lib.hid hi
  clear hi
  obtain ⟨i0, hin, hz0, hz1, hz2⟩ := info_parts info_u64
  have hd : decide ((200 : Int) < (xs.length : Int)) = false := decide_eq_false (by omega)
  refine callsIn_of_wp_marks Try.func40 rfl h9 ?_ hro
  simp only [Try.ntmps40, List.size_toArray, List.length_cons, List.length_nil, Nat.reduceAdd, Nat.reduceSub, Array.replicate_succ, Array.replicate_zero, List.push_toArray, List.append_toArray, List.nil_append, List.cons_append]
  gi_wp2_with (gi_at_call 68; refine (clamped_in F (n - 1) h28 hro _ _ _ _ _).mono ?_; rintro e w' ⟨rfl, rfl⟩)
  have bO := Boxed.new w 27 (.slice none 0 0)
  have bT := Boxed.new (w.alloc (.cells #[.slice none 0 0] 27)) 24 (.int .u64 now)
  have bN := Boxed.new ((w.alloc (.cells #[.slice none 0 0] 27)).alloc (.cells #[.int .u64 now] 24)) 27 (.slice at0 xs.length cap)
  rw [World.size_alloc] at bT
  rw [World.size_alloc, World.size_alloc] at bN
  have hB0 : Below w.heap.size w (((w.alloc (.cells #[.slice none 0 0] 27)).alloc (.cells #[.int .u64 now] 24)).alloc (.cells #[.slice at0 xs.length cap] 27)) := (((Below.refl _ w).alloc (Nat.le_refl _) _).alloc (by simp) _).alloc (by simp; omega) _
  have hlt : ∀ b off, 0 < xs.length → at0 = some ⟨b, off, none⟩ → b < w.heap.size := fun b off h0 e => by
    obtain ⟨b', off', e', hc⟩ := HI.out.cells h0
    rw [e'] at e
    cases e
    exact lt_of_cell' (hc 0 h0)
  refine wpIn_rangeFunc_ownG hro h1 (gf := 84) (lb := #[.pointer (some ⟨w.heap.size + 1, 0, none⟩), .pointer (some ⟨w.heap.size + 1 + 1, 0, none⟩)]) rfl h30 (enters_of Try.func84 (by kernel_rfl) rfl)
    (clamped_stops F (n - 1) h30 h14 hro (by omega) (w.heap.size + 1) (w.heap.size + 1 + 1) w.heap.size now at0 cap xs _ (HI.out.below hB0) hlt (bT.alloc _).cell bN.cell) belowK_t (belowK_b (by simp; omega)) (Below.refl _ _) (fun _ => rfl)
    (fun pre W => (∃ v, Boxed W w.heap.size 27 v ∧ W.ownsRow w.heap.size 24 1 v pre.length (sndV now xs pre) ∧ True) ∧ Below w.heap.size w W)
    (fun _ _ _ => False)
    (OwnFrom.and (Own.from (holdsRow_own w.heap.size w.heap.size 27 24 1 (fun pre => pre.length) (fun pre => sndV now xs pre) (fun _ _ => True)) _) (ownFrom_below (Nat.le_refl _) (by simp; omega)))
    (fun _ _ _ _ _ hs _ _ => hs)
    ⟨⟨_, (bO.alloc _).alloc _, World.ownsRow_nil _ _ _ _, trivial⟩, hB0⟩
    (fun x => { tmps := #[.int .u64 now, .slice at0 xs.length cap, undef, undef, .slice none 0 0, .int .i64 0, .pointer (some ⟨w.heap.size, 0, none⟩), undef, .int .u64 (gr now (xs.take (x.val + 1))), .slice at0 xs.length cap, .int .i64 xs.length, .bool false, .int .u64 now, .slice at0 xs.length cap,
      .func (.func 84) #[] #[.pointer (some ⟨w.heap.size + 1, 0, none⟩), .pointer (some ⟨w.heap.size + 1 + 1, 0, none⟩)], .int .i64 (x.val : Int), .int .u64 (gr now (xs.take (x.val + 1))), undef, undef, undef, undef, undef], defers := [] }) ?assign ?body ?done ?stop
  case assign =>
    intro l x W K hK
    unfold cpV
    gi_wp2
    exact hK
  case body =>
    rintro l pre x W ⟨⟨v, hv, hrow, _⟩, hB⟩ hlt
    have hc := hv.cell
    have hf := hv.frozen
    gi_wp2_with (gi_at_builtin; refine wpListIn_append_own _ rfl _ _ 27 rfl w.heap.size 24 i0 (.int .u64 0) 1 8 Try.underlying27 hin hz0 hz1 hz2 rfl (by decide) _ _ _ rfl (hrow.alloc _) ⟨W.heap.size, 0, none⟩ 1 1 [.int .u64 (gr now (xs.take (x.val + 1)))] rfl rfl (cell_one_new _ _ _) (by simp [Value.oneCell']) (by unfold maxLen; omega) (by omega) (by have := hB.size; simp; omega) ?_; intro v' w1 hown' hgrow _; obtain ⟨g', cap', rfl⟩ := ownsRow_succ hown'; obtain ⟨hv1, hv2, hr2, hk2, hb2⟩ := hv.appended (by decide) hrow hB.size (Nat.le_refl _) hown' hgrow; have hc1 := hv1.cell; have hf1 := hv1.frozen)
    exact ⟨hk2.from _, hb2, ⟨_, hv2, by rw [sndV_snoc]; simpa using hr2, trivial⟩, hB.trans hb2⟩
  case done =>
    rintro D ys W hD hys ⟨⟨v, hv, hrow, _⟩, hB⟩ hK
    have hc := hv.cell
    gi_wp2
    refine ⟨by simp, .inl ⟨_, _, rfl, run_takeDeferred hK, ?_⟩⟩
    have hrow2 := ownsRow_putObj hrow (.deferred none) hK rfl
    have hyl : ys.length = xs.length := by have := congrArg List.length hys; simpa using this
    rw [hyl, sndV_all now xs ys hys] at hrow2
    exact ⟨_, results_tmp2 rfl _ _ _, v, rfl, hrow2, hB.trans (belowK_b (w := w) (Nat.le_refl _) W D _ _ (by simp at hD; omega) hK rfl rfl)⟩
  case stop =>
    rintro D c pre W _ _ h _
    exact h.elim

theorem owns_base {w' : World} {B B' e n : Nat} {v : Value} {l : List Value} (h : w'.ownsRow B e 1 v n l) (hB : B' ≤ B) : w'.ownsRow B' e 1 v n l := by
  obtain ⟨h1, h2 | ⟨g, cap, cur, h3, hg, h4⟩⟩ := h
  · exact ⟨h1, .inl h2⟩
  · exact ⟨h1, .inr ⟨g, cap, cur, h3, by omega, h4⟩⟩
def bkV (now : Int) (xs : List Int) (pre : List (Fin xs.length)) : List Nat := (pre.map (·.val)).filter fun k => decide (nth xs k < gr now (xs.take (k + 1)))
theorem bkV_hit (now : Int) (xs : List Int) (pre : List (Fin xs.length)) (x : Fin xs.length) (h : nth xs x.val < gr now (xs.take (x.val + 1))) : (bkV now xs (pre ++ [x])).map (fun k : Nat => Value.int .i64 k) = (bkV now xs pre).map (fun k : Nat => Value.int .i64 k) ++ [.int .i64 (x.val : Int)] ∧ (bkV now xs (pre ++ [x])).length = (bkV now xs pre).length + 1 := by
  unfold bkV
  simp [List.filter_append, h]
theorem bkV_miss (now : Int) (xs : List Int) (pre : List (Fin xs.length)) (x : Fin xs.length) (h : ¬ nth xs x.val < gr now (xs.take (x.val + 1))) : bkV now xs (pre ++ [x]) = bkV now xs pre := by
  unfold bkV
  simp [List.filter_append, h]
theorem bkV_len (now : Int) (xs : List Int) (pre : List (Fin xs.length)) : (bkV now xs pre).length ≤ pre.length := by
  unfold bkV
  refine Nat.le_trans (List.length_filter_le _ _) (by simp)
theorem gr_lt_iff (now : Int) (xs : List Int) (k : Nat) (h : k < xs.length) : nth xs k < gr now (xs.take (k + 1)) ↔ nth xs k < gr now (xs.take k) := by
  rw [← gr_step now xs k h]
  unfold mx
  split <;> omega
theorem bk_eq (now : Int) (xs : List Int) : ∀ n, n ≤ xs.length → ((List.range n).filter fun k => decide (nth xs k < gr now (xs.take (k + 1)))).map (fun k : Nat => (k : Int)) = bkq now xs n := by
  intro n
  induction n with
  | zero => intro _; rfl
  | succ n ih =>
    intro h
    rw [List.range_succ, List.filter_append, List.map_append, ih (by omega)]
    show _ = if nth xs n < gr now (xs.take n) then bkq now xs n ++ [(n : Int)] else bkq now xs n
    have := gr_lt_iff now xs n (by omega)
    by_cases hh : nth xs n < gr now (xs.take n)
    · rw [if_pos hh]
      simp [this.2 hh]
    · rw [if_neg hh]
      simp [show ¬ nth xs n < gr now (xs.take (n + 1)) from fun q => hh (this.1 q)]
theorem bkV_all (now : Int) (xs : List Int) (ys : List (Fin xs.length)) (h : ys.map (·.val) = List.range xs.length) : (bkV now xs ys).map (fun k : Nat => Value.int .i64 k) = (bkq now xs xs.length).map (Value.int .i64) ∧ (bkV now xs ys).length = (bkq now xs xs.length).length := by
  have := bk_eq now xs xs.length (Nat.le_refl _)
  unfold bkV
  rw [h, ← this]
  simp

theorem clamp_any (a b : Int) (w : World) : Calls Try.prog 85 #[.int .u64 a, .int .u64 b] w fun e w' => e = .returned (.int .u64 (mx a b)) ∧ w' = w :=
  callsIn_wide.1 (clamp_in Fence.wide 1 trivial rfl a b w)
theorem clamps_ok (now : Int) (at0 : Option Addr) (cap : Nat) (xs : List Int) (w : World) (hi : Ints w .u64 at0 cap xs) (hl : xs.length ≤ 200) :
    Calls Try.prog 40 #[.int .u64 now, .slice at0 xs.length cap] w fun e w' =>
      ∃ v, e = .returned (.tuple #[v, .int .i64 0]) ∧ w'.ownsRow w.heap.size 24 1 v xs.length ((cl now xs xs.length).map (Value.int .u64)) ∧ Below w.heap.size w w' :=
  callsIn_wide.1 (clamps_in Fence.wide 3 trivial trivial trivial trivial rfl (by omega) now at0 cap xs w hi hl)
end Go.Proofs.Ytmpcpflpcfanjaa
