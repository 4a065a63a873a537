/-
  Clamped ticks and readings that go back: what the statements say of them, over lists alone.
-/
import Derived.Test.YtdalbngfhinadaaList02
namespace Go.Proofs.Ytdalbngfhinadaa

theorem gr_zero (now : Int) (xs : List Int) : gr now (xs.take 0) = now := rfl
theorem gr_mono (now : Int) (xs : List Int) (k : Nat) (h : k < xs.length) : gr now (xs.take k) ≤ gr now (xs.take (k + 1)) ∧ nth xs k ≤ gr now (xs.take (k + 1)) := by
  rw [← gr_step now xs k h]
  unfold mx
  split <;> omega
theorem cl_nth (now : Int) (xs : List Int) (n k : Nat) (h : k < n) : nth (cl now xs n) k = gr now (xs.take (k + 1)) := by
  rw [nth_get (by rw [cl_len]; exact h)]
  simp [cl]
theorem nth_cons_succ (x : Int) (l : List Int) (i : Nat) : nth (x :: l) (i + 1) = nth l i := rfl
theorem cl_from (now : Int) (xs : List Int) (i : Nat) (h : i ≤ xs.length) : nth ([now] ++ cl now xs xs.length) i = gr now (xs.take i) := by
  cases i with
  | zero => rfl
  | succ i =>
    show nth (now :: cl now xs xs.length) (i + 1) = _
    rw [nth_cons_succ, cl_nth now xs _ i (by omega)]
theorem cl_rises (now : Int) (xs : List Int) : risB ([now] ++ cl now xs xs.length) = true := by
  refine decide_eq_true fun i h1 h2 => ?_
  simp [cl_len] at h1 h2
  rw [cl_from now xs i (by omega), cl_from now xs (i + 1) (by omega)]
  exact (gr_mono now xs i (by omega)).1
theorem gr_mem (now : Int) (l : List Int) : gr now l = now ∨ ∃ i, i < l.length ∧ nth l i = gr now l := by
  have key : ∀ k, k ≤ l.length → gr now (l.take k) = now ∨ ∃ i, i < k ∧ nth l i = gr now (l.take k) := by
    intro k
    induction k with
    | zero => intro _; exact .inl rfl
    | succ k ih =>
      intro h
      rw [← gr_step now l k (by omega)]
      unfold mx
      split
      · exact .inr ⟨k, by omega, rfl⟩
      · rcases ih (by omega) with e | ⟨i, hi, e⟩
        · exact .inl e
        · exact .inr ⟨i, by omega, e⟩
  have := key l.length (Nat.le_refl _)
  rwa [List.take_of_length_le (Nat.le_refl _)] at this
theorem cl_in (now : Int) (xs : List Int) (k : Nat) (hn : gr now (xs.take (k + 1)) ≠ now) : inB (xs.take (k + 1)) (gr now (xs.take (k + 1))) = true := by
  rcases gr_mem now (xs.take (k + 1)) with e | e
  · exact absurd e hn
  · exact decide_eq_true e
theorem bk_nth (now : Int) (xs : List Int) (n k : Nat) (h : k < n) (hb : nth xs k < gr now (xs.take k)) : (bk now xs k).length < (bk now xs n).length ∧ nth (bk now xs n) (bk now xs k).length = (k : Int) ∧ (bk now xs (k + 1)).length = (bk now xs k).length + 1 := by
  have h1 : bk now xs (k + 1) = bk now xs k ++ [(k : Int)] := if_pos hb
  have key : ∀ n, k + 1 ≤ n → ∃ r, bk now xs n = bk now xs (k + 1) ++ r := by
    intro n
    induction n with
    | zero => intro h; omega
    | succ n ih =>
      intro hn
      rcases Nat.lt_or_ge k n with q | q
      · obtain ⟨r, e⟩ := ih (by omega)
        by_cases hh : nth xs n < gr now (xs.take n)
        · exact ⟨r ++ [(n : Int)], by rw [show bk now xs (n + 1) = bk now xs n ++ [(n : Int)] from if_pos hh, e, List.append_assoc]⟩
        · exact ⟨r, by rw [show bk now xs (n + 1) = bk now xs n from if_neg hh, e]⟩
      · obtain rfl : k = n := by omega
        exact ⟨[], by simp⟩
  obtain ⟨r, e⟩ := key n (by omega)
  rw [e, h1]
  refine ⟨by simp, ?_, by simp⟩
  rw [List.append_assoc, nth_append_right (Nat.le_refl _)]
  simp [nth]
theorem bk_skip (now : Int) (xs : List Int) (k : Nat) (hb : ¬ nth xs k < gr now (xs.take k)) : bk now xs (k + 1) = bk now xs k := if_neg hb
theorem gr_ne_iff (now : Int) (xs : List Int) (k : Nat) (h : k < xs.length) : gr now (xs.take (k + 1)) ≠ nth xs k ↔ nth xs k < gr now (xs.take k) := by
  rw [← gr_step now xs k h]
  unfold mx
  split <;> omega

/-- Clamping what is clamped; clamping what rises; clamping in two parts. -/
theorem gr_append (now : Int) (l m : List Int) : gr now (l ++ m) = gr (gr now l) m := by
  unfold gr
  rw [List.foldl_append]
theorem cl_ext (now : Int) (xs : List Int) (A : List Int) (hl : A.length = xs.length) (h : ∀ i, i < xs.length → nth A i = gr now (xs.take (i + 1))) : A = cl now xs xs.length :=
  ext_nth (by rw [cl_len, hl]) fun i hi => by rw [h i (by omega), cl_nth now xs _ i (by omega)]
theorem gr_of_rising (now : Int) (xs : List Int) (h : risB ([now] ++ xs) = true) : ∀ k, k ≤ xs.length → gr now (xs.take k) = nth ([now] ++ xs) k := by
  have hr := of_decide_eq_true h
  intro k
  induction k with
  | zero => intro _; rfl
  | succ k ih =>
    intro hk
    rw [← gr_step now xs k (by omega), ih (by omega)]
    have := hr k (by simp; omega) (by simp; omega)
    rw [show nth ([now] ++ xs) (k + 1) = nth xs k from rfl] at this ⊢
    unfold mx
    split <;> omega
theorem cl_of_rising (now : Int) (xs : List Int) (h : risB ([now] ++ xs) = true) : cl now xs xs.length = xs :=
  ext_nth (cl_len _ _ _) fun i hi => by
    rw [cl_len] at hi
    rw [cl_nth now xs _ i hi, gr_of_rising now xs h (i + 1) (by omega)]
    rfl
theorem bk_of_rising (now : Int) (xs : List Int) (h : risB ([now] ++ xs) = true) : ∀ n, n ≤ xs.length → bk now xs n = [] := by
  intro n
  have hr := of_decide_eq_true h
  induction n with
  | zero => intro _; rfl
  | succ n ih =>
    intro hn
    rw [bk_skip now xs n, ih (by omega)]
    rw [gr_of_rising now xs h n (by omega)]
    have := hr n (by simp; omega) (by simp; omega)
    rw [show nth ([now] ++ xs) (n + 1) = nth xs n from rfl] at this
    omega
theorem cl_parts (now : Int) (xs : List Int) (k : Nat) (h : k ≤ xs.length) : cl now xs xs.length = cl now (xs.take k) k ++ cl (gr now (xs.take k)) (xs.drop k) (xs.length - k) := by
  refine ext_nth (by simp [cl_len]; omega) fun i hi => ?_
  rw [cl_len] at hi
  rw [cl_nth now xs _ i hi]
  rcases Nat.lt_or_ge i k with q | q
  · rw [nth_append_left (by rw [cl_len]; exact q), cl_nth _ _ _ i q, List.take_take, Nat.min_eq_left (by omega)]
  · rw [nth_append_right (by rw [cl_len]; exact q), cl_len, cl_nth _ _ _ _ (by omega), ← gr_append]
    congr 1
    have h1 : xs.take (i + 1) = (xs.take k ++ xs.drop k).take (i + 1) := by rw [List.take_append_drop]
    rw [h1, List.take_append]
    rw [List.length_take, Nat.min_eq_left h, List.take_take, Nat.min_eq_right (by omega)]
    congr 2
    omega
theorem cl_last (now : Int) (xs : List Int) (n : Nat) : nth (cl now xs (n + 1)) n = gr now (xs.take (n + 1)) := cl_nth now xs _ n (by omega)

section
open Go.RowKit
variable {w : World} {v1 : Value} {xs zs : List Int} {c : Int}
theorem rclamps_is {now : Int} (h : Hid (clV now xs = zs)) (h' : Hid (clE xs = c)) (h1 : IsL w .u64 v1 xs) : Calls Try.prog 17 #[.int .u64 now, v1] w (Gives .u64 zs c w) := by
  rw [← h.out, ← h'.out]
  exact rclamps_a h1
theorem rback_is {now : Int} (h : Hid (bkL now xs = zs)) (h' : Hid (clE xs = c)) (h1 : IsL w .u64 v1 xs) : Calls Try.prog 18 #[.int .u64 now, v1] w (Gives .i64 zs c w) := by
  rw [← h.out, ← h'.out]
  exact rback_a h1
theorem clamp_is {a b m : Int} (h : Hid (mx a b = m)) : Calls Try.prog 14 #[.int .u64 a, .int .u64 b] w fun e w' => e = .returned (.int .u64 m) ∧ Below w.heap.size w w' := by
  rw [← h.out]
  exact clamp_l
theorem rmerge_is {v2 : Value} {ys : List Int} (h : Hid (mgV xs ys = zs)) (h' : Hid (mgE xs ys = c)) (h1 : IsL w .u64 v1 xs) (h2 : IsL w .u64 v2 ys) : Calls Try.prog 24 #[v1, v2] w (Gives .u64 zs c w) := by
  rw [← h.out, ← h'.out]
  exact rmerge_l h1 h2
end

open Go.RowKit in
theorem wpList_append_onto {P : Program} {w : World} {ops : Array Oper} {rest : List Oper} {o : Oper} {a : Act} {Q : Exit → Act → World → Prop} (hw : Region.wanted o (yielded ops a.tmps) = true) (s x : Operand) (t : TypeId)
    (ho : o.op = .call { callee := .builtin .append, args := #[s, x], argTypes := #[t, t] })
    (base : Nat) (e : TypeId) (i : TypeInfo) (z : Value) (bytes : Nat) (k : IntKind) (ht : P.underlying t = some (.slice e)) (hi : P.info? e = some i) (hz : i.zero = some z)
    (hsize : i.size = 1) (hby : i.bytes = bytes) (hzs : z.cells.size = 1)
    (v : Value) (ys xs : List Int) (v2 : Value) (hs : a.eval s = v) (hx : a.eval x = v2) (hown : w.ownsRow base e 1 v ys.length (ys.map (Value.int k))) (hin : IsL w k v2 xs)
    (h63 : ys.length + xs.length ≤ maxLen) (hbytes : (ys.length + xs.length) * bytes ≤ 140737488355328) (hbase : base ≤ w.heap.size)
    (h : ∀ v' w', w'.ownsRow base e 1 v' (ys ++ xs).length ((ys ++ xs).map (Value.int k)) → Below base w w' → wpList P ops Q rest (a.put o.dst v') w') : wpList P ops Q (o :: rest) a w := by
  obtain ⟨a2, c2, rfl, hi2, h02⟩ := hin
  refine wpList_append_ints hw s x t ho base e i z bytes k ht hi hz hsize hby hzs v ys.length _ hs hown a2 c2 xs hx hi2 h02 h63 hbytes hbase (fun v' w' h1 h2 => h v' w' ?_ ?_)
  · rw [List.length_append, List.map_append]
    exact h1
  · exact (Below.refl _ w).grown h2 hbase (own_block hown)

end Go.Proofs.Ytdalbngfhinadaa
