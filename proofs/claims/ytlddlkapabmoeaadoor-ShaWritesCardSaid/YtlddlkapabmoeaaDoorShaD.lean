/-
  Package sha: paddings and blocks handed out, digests, the first hash.
-/
import Derived.Test.YtlddlkapabmoeaaDoorShaC
namespace Go.Proofs.YtlddlkapabmoeaaDoor
open Go.RowKit

/-- A slice and an error; eight words and an error. -/
def GivesB (zs : List Int) (c : Int) (w : World) (e : Ending) (w' : World) : Prop := ∃ v, e = .returned (.tuple #[v, .int .i64 c]) ∧ IsL w' .u8 v zs ∧ Below w.heap.size w w'
theorem pad_ok (n : Nat) (w : World) (hn : n ≤ 128000) : Calls Tryd.prog 11 #[.int .i64 (n : Int)] w (GivesB (padL n) 0 w) := by
  have HC := Lib.hid (show cntB (n : Int) = true by simp [cntB]; omega)
  go_enter Tryd.func11, Tryd.ntmps11
  go_wp2_with fail
  refine (countable_b _ (by omega) (by omega) HC).mono ?_
  rintro e w' ⟨rfl, rfl⟩
  go_wp2_with fail
  refine (padding_any n _ hn).mono ?_
  rintro e w' ⟨v, rfl, hv, hb⟩
  go_wp2_with fail
  go_returns
  exact ⟨v, rfl, hv, hb⟩
theorem pad_no (n : Int) (w : World) (h1 : -9223372036854775808 ≤ n) (h2 : n ≤ 9223372036854775807) (hc : Hid (cntB n = false)) : Calls Tryd.prog 11 #[.int .i64 n] w (GivesB [] 2 w) := by
  go_enter Tryd.func11, Tryd.ntmps11
  go_wp2_with fail
  refine (countable_b _ h1 h2 hc).mono ?_
  rintro e w' ⟨rfl, rfl⟩
  go_wp2_with fail
  go_returns
  exact ⟨_, rfl, IsL.none, Below.refl _ _⟩

/-- The bytes of a string are bytes. -/
def bytesL (xs : List Int) : Prop := ∀ k, k < xs.length → 0 ≤ nth xs k ∧ nth xs k < 256
theorem bytesL.append {xs ys : List Int} (h1 : bytesL xs) (h2 : bytesL ys) : bytesL (xs ++ ys) := by
  intro k hk
  rw [List.length_append] at hk
  by_cases h : k < xs.length
  · rw [nth_append_left h]; exact h1 k h
  · rw [nth_append_right (by omega)]; exact h2 _ (by omega)
theorem bytesL.drop {xs : List Int} (h : bytesL xs) (m : Nat) : bytesL (xs.drop m) := by
  intro k hk
  rw [nth_drop]
  rw [List.length_drop] at hk
  exact h _ (by omega)
theorem bytesL.take {xs : List Int} (h : bytesL xs) (m : Nat) : bytesL (xs.take m) := by
  intro k hk
  rw [List.length_take] at hk
  rw [nth_take (by omega)]
  exact h _ (by omega)
theorem bytesL.nil : bytesL [] := fun k hk => by simp at hk
theorem bytesL.of_all {xs : List Int} (h : ∀ x ∈ xs, 0 ≤ x ∧ x < 256) : bytesL xs := nth_all h
theorem padL_bytes (n : Nat) : bytesL (padL n) := bytesL.of_all fun x hx => by
  unfold padL at hx
  rcases List.mem_cons.1 hx with rfl | hx
  · omega
  · rcases List.mem_append.1 hx with hx | hx
    · rw [List.eq_of_mem_replicate hx]; omega
    · obtain ⟨i, _, rfl⟩ := List.mem_map.1 hx
      unfold padB
      omega
theorem dig_bytes (h : W8) : bytesL (dig h) := bytesL.of_all fun x hx => by
  obtain ⟨i, _, rfl⟩ := List.mem_map.1 hx
  unfold digB
  omega

theorem block_is {h T : W8} {v : Value} {xs : List Int} (w : World) (hT : Hid (taken h xs = T)) (hi : IsL w .u8 v xs) (hl : Hid (xs.length = 64)) (hx : Hid (bytesL xs)) (hL : LaidS w) :
    Calls Tryd.prog 27 #[.agg #[.int .u32 (un h.a), .int .u32 (un h.b), .int .u32 (un h.c), .int .u32 (un h.d), .int .u32 (un h.e), .int .u32 (un h.f), .int .u32 (un h.g), .int .u32 (un h.z)], v] w fun e w' => e = .returned (.agg (hv T).toArray) ∧ Below w.heap.size w w' := by
  obtain ⟨at0, cap, rfl, hi, h0⟩ := hi
  rw [← hT.out]
  exact block_any h at0 cap xs w hi hl.out (by have := hx.out; unfold bytesL at this; rw [hl.out] at this; exact this) hL
set_option maxRecDepth 100000 in
theorem bBlock_is {h T : W8} {v : Value} {xs : List Int} (w : World) (hT : Hid (taken h xs = T)) (hi : Hid (IsL w .u8 v xs)) (hl : Hid (xs.length = 64)) (hx : Hid (bytesL xs)) (hL : Hid (LaidS w)) :
    Calls Tryd.prog 12 #[.agg #[.int .u32 (un h.a), .int .u32 (un h.b), .int .u32 (un h.c), .int .u32 (un h.d), .int .u32 (un h.e), .int .u32 (un h.f), .int .u32 (un h.g), .int .u32 (un h.z)], v] w fun e w' =>
      e = .returned (.tuple #[.agg (hv T).toArray, .int .i64 0]) ∧ Below w.heap.size w w' := by
  obtain ⟨at0, cap, hv0⟩ : ∃ at0 cap, v = .slice at0 64 cap := by
    obtain ⟨at0, cap, e, _⟩ := hi.out
    exact ⟨at0, cap, by rw [e, hl.out]⟩
  subst hv0
  go_enter Tryd.func12, Tryd.ntmps12
  go_wp2_with fail
  refine (block_is _ hT ((hi.out.alloc _).alloc _) hl hx ((hL.out.alloc _).alloc _)).mono ?_
  rintro e w1 ⟨rfl, hb⟩
  have hB1 : Below w.heap.size w w1 := below_thru (by go_grown) hb
  have hxr : Box w1 (w.heap.size + 1) (List.replicate 8 (.int .u32 0)) := Box.below (Box.newc rfl (by simp)) hb
  clear hb
  go_wp2_with (refine wpList_store_box (cs := hv T) rfl _ _ _ rfl hxr rfl rfl size8 rfl (hv_one _) ?_; intro W3 hW3)
  exact bodyPost_ret (v := .tuple #[.agg (hv T).toArray, .int .i64 0]) (results_box2 Tryd.results12 hW3.box rfl rfl Tryd.underlying32 rfl size8) rfl ⟨rfl, hW3.below _ _ (Nat.le_succ _) hB1⟩
set_option maxRecDepth 100000 in
theorem bBlock_no (h : W8) (at0 : Option Addr) (len cap : Nat) (w : World) (hl : len ≠ 64) (hm : len ≤ 9223372036854775807) :
    Calls Tryd.prog 12 #[.agg #[.int .u32 (un h.a), .int .u32 (un h.b), .int .u32 (un h.c), .int .u32 (un h.d), .int .u32 (un h.e), .int .u32 (un h.f), .int .u32 (un h.g), .int .u32 (un h.z)], .slice at0 len cap] w fun e w' =>
      e = .returned (.tuple #[.agg #[.int .u32 0, .int .u32 0, .int .u32 0, .int .u32 0, .int .u32 0, .int .u32 0, .int .u32 0, .int .u32 0], .int .i64 2]) ∧ Below w.heap.size w w' := by
  have _ := hm
  have hl' : ((len : Int) != 64) = true := by simpa using (show (len : Int) ≠ 64 by omega)
  clear hl
  go_enter Tryd.func12, Tryd.ntmps12
  go_wp2_with fail
  refine bodyPost_ret (v := .tuple #[.agg #[.int .u32 0, .int .u32 0, .int .u32 0, .int .u32 0, .int .u32 0, .int .u32 0, .int .u32 0, .int .u32 0], .int .i64 2]) (by simp [results, Tryd.results12, go_sem]) rfl ⟨rfl, ?_⟩
  go_grown

end Go.Proofs.YtlddlkapabmoeaaDoor
