/-
  The reference of layer 2, walked: clamped ticks, readings that go back.
-/
import Derived.Test.YtdalbngfhinadaaRef02
namespace Go.Proofs.Ytdalbngfhinadaa
open Go.RowKit

theorem greatest_at (now : Int) (at0 : Option Addr) (cap : Nat) (xs : List Int) (m : Nat) (w : World) (hi : Ints w .u64 at0 cap xs) (hm : m ≤ xs.length) :
    Calls Try.prog 19 #[.int .u64 now, .slice at0 m cap] w fun e w' => e = .returned (.int .u64 (gr now (xs.take m))) ∧ w' = w := by
  have h := greatest_any now at0 cap (xs.take m) w (hi.take m hm)
  rw [show (xs.take m).length = m by rw [List.length_take]; omega] at h
  exact h

/-- The clamped ticks. -/
def cl (now : Int) (xs : List Int) (k : Nat) : List Int := (List.range k).map fun i => gr now (xs.take (i + 1))
theorem cl_succ (now : Int) (xs : List Int) (k : Nat) : cl now xs (k + 1) = cl now xs k ++ [gr now (xs.take (k + 1))] := by
  unfold cl
  rw [List.range_succ, List.map_append]
  rfl
theorem cl_len (now : Int) (xs : List Int) (k : Nat) : (cl now xs k).length = k := by unfold cl; simp

theorem info_u64 : (Try.prog.info? 26).map (fun i => (i.zero, i.size, i.bytes)) = some (some (.int .u64 0), 1, 8) := by kernel_rfl

theorem own_snoc {w' : World} {B e : Nat} {v : Value} {k : Nat} {xs : List Int} {x : Int} (h : w'.ownsRow B e 1 v (k + 1) (xs.map (Value.int .u64) ++ [.int .u64 x])) : w'.ownsRow B e 1 v (k + 1) ((xs ++ [x]).map (Value.int .u64)) := by
  rw [List.map_append]
  exact h

theorem own_block {w' : World} {B e n : Nat} {v : Value} {l : List Value} (h : w'.ownsRow B e 1 v n l) : ∀ k, v.ownBlock = some k → B ≤ k := by
  intro k hk
  obtain ⟨_, ⟨rfl, _⟩ | ⟨g, cap, cur, rfl, hg, _⟩⟩ := h
  · cases hk
  · cases hk
    exact hg
theorem one_cell {w : World} {x : Value} {t : TypeId} : ∀ (j : Nat) (u : Value), [x][j]? = some u → (w.alloc (.cells #[x] t)).cell? ((⟨w.heap.size, 0, none⟩ : Addr).add j) = some u := by
  intro j u h
  cases j with
  | zero =>
    simp at h
    subst h
    simp [Addr.add]
  | succ j => simp at h

set_option maxRecDepth 100000 in
set_option maxHeartbeats 1600000 in
theorem rclamps_ok (now : Int) (at0 : Option Addr) (cap : Nat) (xs : List Int) (w : World) (hi : Ints w .u64 at0 cap xs) (hl : xs.length ≤ 200) :
    Calls Try.prog 17 #[.int .u64 now, .slice at0 xs.length cap] w fun e w' =>
      ∃ v, e = .returned (.tuple #[v, .int .i64 0]) ∧ w'.ownsRow w.heap.size 26 1 v xs.length ((cl now xs xs.length).map (Value.int .u64)) ∧ Below w.heap.size w w' := by
  have hm := hi.most
  have hr := hi.room
  have HI := Lib.hid hi
  clear hi
  obtain ⟨i0, hin, hz0, hz1, hz2⟩ := info_parts info_u64
  go_enter Try.func17, Try.ntmps17
  go_wp2
  go_loopw [6, 7] (fun v i wr => ∃ k : Nat, k ≤ xs.length ∧ i = .int .i64 k ∧ wr.ownsRow w.heap.size 26 1 v k ((cl now xs k).map (Value.int .u64)) ∧ Below w.heap.size w wr) (fun _ i _ => xs.length - (intOf i).toNat)
  case atStart => exact ⟨0, Nat.zero_le _, rfl, ⟨rfl, Or.inl ⟨rfl, rfl⟩⟩, Below.refl _ _⟩
  case round =>
    obtain ⟨k, hk, rfl, hown, hB⟩ := hrel
    have hs := hB.size
    by_cases hlt : k < xs.length
    · have hI := HI.out.below hB
      have HC := Lib.hid (cl_succ now xs k)
      have HI2 := Lib.hid hI
      clear hI
      go_wp2_with fail
      refine (greatest_at now at0 cap xs (k + 1) _ HI2.out (by omega)).mono ?_
      rintro e w1 ⟨rfl, rfl⟩
      go_wp2_with (at_builtin; refine wpList_append_own _ rfl _ _ 22 rfl w.heap.size 26 i0 (.int .u64 0) 1 8 Try.underlying22 hin hz0 hz1 hz2 rfl (by decide) _ _ _ rfl (hown.alloc _) ⟨w1.heap.size, 0, none⟩ 1 1 [.int .u64 (gr now (xs.take (k + 1)))] rfl rfl ?c1 ?c2 ?c3 ?c4 ?c5 ?_)
      case c1 => exact one_cell
      case c2 => intro x hx; simp at hx; subst hx; rfl
      case c3 => unfold maxLen; omega
      case c4 => omega
      case c5 => simp; omega
      intro v' w2 hown2 hgrow _
      have hown3 := own_snoc hown2
      rw [← HC.out] at hown3
      have hB2 : Below w.heap.size w w2 := (hB.alloc hs _).grown hgrow (by simp; omega) (own_block hown)
      clear hown2 hgrow hown hB
      go_wp2_with fail
      go_roundw
      case rel => exact ⟨k + 1, by omega, by go_num, hown3, hB2⟩
      case measure => simp [intOf]; omega
    · obtain rfl : k = xs.length := by omega
      go_wp2_with fail
      go_returns
      exact ⟨_, rfl, hown, hB⟩

theorem rclamps_no (now : Int) (at0 : Option Addr) (len cap : Nat) (w : World) (hl : 200 < len) (hm : len ≤ 9223372036854775807) :
    Calls Try.prog 17 #[.int .u64 now, .slice at0 len cap] w fun e w' => e = .returned (.tuple #[.slice none 0 0, .int .i64 4]) ∧ w' = w := by
  go_enter Try.func17, Try.ntmps17
  go_wp2
  go_returns
  exact ⟨rfl, rfl⟩

theorem owns_drewN {w : World} {B e n : Nat} {v : Value} {l : List Value} (h : w.ownsRow B e 1 v n l) (m : Nat) : (w.drewN m).ownsRow B e 1 v n l := h
theorem below_drewN' {B : Nat} {a w : World} (h : Below B a w) (n : Nat) : Below B a (w.drewN n) := ⟨h.os, h.tape, h.output, h.size, h.block⟩
/-- The indices of those that go back. -/
def bk (now : Int) (xs : List Int) : Nat → List Int
  | 0 => []
  | k + 1 => if nth xs k < gr now (xs.take k) then bk now xs k ++ [(k : Int)] else bk now xs k
theorem bk_len (now : Int) (xs : List Int) (k : Nat) : (bk now xs k).length ≤ k := by
  induction k with
  | zero => simp [bk]
  | succ k ih =>
    unfold bk
    split
    · simp; omega
    · omega
theorem info_int : (Try.prog.info? 3).map (fun i => (i.zero, i.size, i.bytes)) = some (some (.int .i64 0), 1, 8) := by kernel_rfl
theorem own_snoc_i {w' : World} {B e n : Nat} {v : Value} {xs : List Int} {x : Int} (h : w'.ownsRow B e 1 v (n + 1) (xs.map (Value.int .i64) ++ [.int .i64 x])) : w'.ownsRow B e 1 v (n + 1) ((xs ++ [x]).map (Value.int .i64)) := by
  rw [List.map_append]
  exact h

set_option maxRecDepth 100000 in
set_option maxHeartbeats 1600000 in
theorem rback_ok (now : Int) (at0 : Option Addr) (cap : Nat) (xs : List Int) (w : World) (hi : Ints w .u64 at0 cap xs) (hl : xs.length ≤ 200) :
    Calls Try.prog 18 #[.int .u64 now, .slice at0 xs.length cap] w fun e w' =>
      ∃ v, e = .returned (.tuple #[v, .int .i64 0]) ∧ w'.ownsRow w.heap.size 3 1 v (bk now xs xs.length).length ((bk now xs xs.length).map (Value.int .i64)) ∧ Below w.heap.size w w' := by
  have hm := hi.most
  have hr := hi.room
  have HI := Lib.hid hi
  clear hi
  obtain ⟨ti, hin, hz0, hz1, hz2⟩ := info_parts info_int
  go_enter Try.func18, Try.ntmps18
  go_wp2
  go_loopw [6, 7] (fun v i wr => ∃ k : Nat, k ≤ xs.length ∧ i = .int .i64 k ∧ wr.ownsRow w.heap.size 3 1 v (bk now xs k).length ((bk now xs k).map (Value.int .i64)) ∧ Below w.heap.size w wr) (fun _ i _ => xs.length - (intOf i).toNat)
  case atStart => exact ⟨0, Nat.zero_le _, rfl, ⟨rfl, Or.inl ⟨rfl, rfl⟩⟩, Below.refl _ _⟩
  case round =>
    obtain ⟨k, hk, rfl, hown, hB⟩ := hrel
    have hs := hB.size
    by_cases hlt : k < xs.length
    · have hI := HI.out.below hB
      have hbl := bk_len now xs k
      obtain ⟨b, off, e1, hc⟩ := hI.at hlt
      subst e1
      have i0 : (0 : Int) ≤ (k : Int) := by omega
      have i1 : (k : Int) < (xs.length : Int) := by omega
      have i2 : (k : Int) ≤ (cap : Int) := by omega
      have HI2 := Lib.hid hI
      clear hI
      by_cases h : nth xs k < gr now (xs.take k)
      · have HC := Lib.hid (show bk now xs (k + 1) = bk now xs k ++ [(k : Int)] from if_pos h)
        have hd : decide (nth xs k < gr now (xs.take k)) = true := decide_eq_true h
        clear h
        go_wp2_with fail
        go_quiet ((go_at_call 19; exact Calls.quiet_of_same (greatest_at now _ cap xs k _ (HI2.out.drewN _) (by omega))))
        rename_i nq
        go_wp2_with (at_builtin; refine wpList_append_own _ rfl _ _ 27 rfl w.heap.size 3 ti (.int .i64 0) 1 8 Try.underlying27 hin hz0 hz1 hz2 rfl (by decide) _ _ _ rfl ((owns_drewN hown nq).alloc _) ⟨wr.heap.size, 0, none⟩ 1 1 [.int .i64 (k : Int)] rfl rfl ?c1 ?c2 ?c3 ?c4 ?c5 ?_)
        case c1 => exact one_cell
        case c2 => intro x hx; simp at hx; subst hx; rfl
        case c3 => unfold maxLen; omega
        case c4 => omega
        case c5 => simp; omega
        intro v' w2 hown2 hgrow _
        have hown3 := own_snoc_i hown2
        rw [show (bk now xs k).length + 1 = (bk now xs k ++ [(k : Int)]).length by simp, ← HC.out] at hown3
        have hB2 : Below w.heap.size w w2 := ((below_drewN' hB nq).alloc (by simpa using hs) _).grown hgrow (by simp; omega) (own_block hown)
        clear hown2 hgrow hown hB
        go_wp2_with fail
        go_roundw
        case rel => exact ⟨k + 1, by omega, by go_num, hown3, hB2⟩
        case measure => simp [intOf]; omega
      · have HC := Lib.hid (show bk now xs (k + 1) = bk now xs k from if_neg h)
        have hd : decide (nth xs k < gr now (xs.take k)) = false := decide_eq_false h
        clear h
        go_wp2_with fail
        go_quiet ((go_at_call 19; exact Calls.quiet_of_same (greatest_at now _ cap xs k _ (HI2.out.drewN _) (by omega))))
        rename_i nq
        go_wp2_with fail
        go_roundw
        case rel => exact ⟨k + 1, by omega, by go_num, by rw [HC.out]; exact owns_drewN hown nq, below_drewN' hB nq⟩
        case measure => simp [intOf]; omega
    · obtain rfl : k = xs.length := by omega
      go_wp2_with fail
      go_returns
      exact ⟨_, rfl, hown, hB⟩

end Go.Proofs.Ytdalbngfhinadaa
