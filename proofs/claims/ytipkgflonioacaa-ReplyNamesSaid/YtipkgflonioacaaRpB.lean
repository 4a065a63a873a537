/-
  Package reply, walked: rowOf and its closure, kindsOfRow.
-/
import Derived.Test.YtipkgflonioacaaRpA
namespace Go.Proofs.Ytipkgflonioacaa
open Go.RowKit

theorem flatR_cut3 {α : Type} {L : Lay α} {xs : List α} {k : Nat} (h : k < xs.length) : flatR L xs = flatR L (xs.take k) ++ (L.f xs[k] ++ flatR L (xs.drop (k + 1))) := by
  have e0 : xs = xs.take k ++ xs[k] :: xs.drop (k + 1) := by rw [← List.drop_eq_getElem_cons h, List.take_append_drop]
  have e1 := congrArg (flatR L) e0
  rw [flatR_app] at e1
  rw [e1]
  congr 1
/-- A row of structs, one of them changed. -/
theorem flatR_upd {α : Type} {L : Lay α} {xs : List α} {k : Nat} (h : k < xs.length) (y : α) : flatR L (xs.set k y) = (flatR L xs).take (k * L.s) ++ L.f y ++ (flatR L xs).drop (k * L.s + (L.f y).length) := by
  have e1 := flatR_cut3 (L := L) h
  have l1 : (flatR L (xs.take k)).length = k * L.s := by rw [flatR_len, List.length_take]; congr 1; omega
  have e2 : flatR L (xs.set k y) = flatR L (xs.take k) ++ (L.f y ++ flatR L (xs.drop (k + 1))) := by
    rw [List.set_eq_take_append_cons_drop, if_pos h, flatR_app]
    unfold flatR
    simp
  rw [e2, e1]
  generalize flatR L (xs.take k) = A at *
  generalize flatR L (xs.drop (k + 1)) = C at *
  rw [List.take_left' l1, ← List.drop_drop, List.drop_left' l1, List.drop_left' (by rw [L.len, L.len]), List.append_assoc]
theorem flatR_at1 {α : Type} {L : Lay α} {xs : List α} {k : Nat} {x : α} (h : xs[k]? = some x) : ∃ A C, flatR L xs = A ++ (L.f x ++ C) ∧ A.length = k * L.s := by
  obtain ⟨hk, rfl⟩ := List.getElem?_eq_some_iff.1 h
  refine ⟨flatR L (xs.take k), flatR L (xs.drop (k + 1)), ?_, by rw [flatR_len, List.length_take]; congr 1; omega⟩
  exact flatR_cut3 hk
theorem flatR_set0 {xs : List Fd} {k : Nat} {x y : Fd} {v : Value} (h : xs[k]? = some x) (hy : y.v = x.v.set 0 v) : (flatR LF xs).set (k * 34) v = flatR LF (xs.set k y) := by
  obtain ⟨A, C, e, l⟩ := flatR_at1 (L := LF) h
  rw [flatR_upd (L := LF) (List.getElem?_eq_some_iff.1 h).1 y]
  show (flatR LF xs).set (k * 34) v = (flatR LF xs).take (k * 34) ++ y.v ++ (flatR LF xs).drop (k * 34 + y.v.length)
  rw [e]
  have l2 : A.length = k * 34 := l
  have l3 : y.v.length = x.v.length := by rw [hy, List.length_set]
  show (A ++ (x.v ++ C)).set (k * 34) v = (A ++ (x.v ++ C)).take (k * 34) ++ y.v ++ (A ++ (x.v ++ C)).drop (k * 34 + y.v.length)
  rw [List.take_left' l2, ← List.drop_drop, List.drop_left' l2, l3, List.drop_left' rfl, ← l2, List.set_append_right _ _ (Nat.le_refl _), Nat.sub_self, List.set_append_left _ _ (by rw [x.v_len]; decide), ← hy, List.append_assoc]
set_option maxRecDepth 100000 in
theorem index_row {xs : List Fd} (hl : xs.length = 13) {k : Nat} {f : Fd} (h : xs[k]? = some f) (W : World) : (Instr.index 55 (.agg (flatR LF xs).toArray) (.int .i64 k)).run Try.prog W = .ok (.agg f.v.toArray) W := by
  obtain ⟨A, C, e, l⟩ := flatR_at1 (L := LF) h
  have hk := (List.getElem?_eq_some_iff.1 h).1
  unfold Instr.index
  have hb : (0 : Int) ≤ (k : Int) ∧ (k : Int) < ((13 : Nat) : Int) := by omega
  simp [Sem.run_bind, go_sem, hb]
  rw [if_pos (by omega), e, List.drop_left' (show A.length = k * 34 from l), List.take_left' (show (LF.f f).length = 34 from f.v_len)]
  rfl
def zrow (k : Nat) : List Fd := List.replicate k (fdN 7 0) ++ List.replicate (13 - k) Fd.zero
theorem zrow_len {k : Nat} (h : k ≤ 13) : (zrow k).length = 13 := by unfold zrow; simp; omega
theorem zrow_succ {k : Nat} (h : k < 13) : (zrow k)[k]? = some Fd.zero ∧ (zrow k).set k (fdN 7 0) = zrow (k + 1) := by
  have : k = 0 ∨ k = 1 ∨ k = 2 ∨ k = 3 ∨ k = 4 ∨ k = 5 ∨ k = 6 ∨ k = 7 ∨ k = 8 ∨ k = 9 ∨ k = 10 ∨ k = 11 ∨ k = 12 := by omega
  rcases this with q | q | q | q | q | q | q | q | q | q | q | q | q <;> subst q <;> exact ⟨rfl, rfl⟩
theorem fd7_v : (fdN 7 0).v = Fd.zero.v.set 0 (.int .u8 7) := by rw [fdN_v (by decide) (by decide)]; rfl
theorem zrow_put {k : Nat} (h : k < 13) : (flatR LF (zrow k)).set (k * 34) (.int .u8 7) = flatR LF (zrow (k + 1)) := by
  obtain ⟨h1, h2⟩ := zrow_succ h
  rw [flatR_set0 h1 fd7_v, h2]
theorem row_size {xs : List Fd} (h : xs.length = 13) : (Try.prog.info? 55).map (·.size) = some (flatR LF xs).length := by
  rw [flatR_len, h, show (Try.prog.info? 55).map (·.size) = some 442 by kernel_rfl]
  rfl
theorem flat_len {xs : List Fd} (h : xs.length = 13) : (flatR LF xs).length = 442 := by rw [flatR_len, h]; rfl
theorem flat_one (xs : List Fd) : (flatR LF xs).toArray.all (·.oneCell') = true := all_oneCell_toArray fun _ h => flatR_ones h
set_option maxRecDepth 100000 in
theorem zero_row (W : World) : (zeroValue 55).run Try.prog W = .ok (.agg (flatR LF (zrow 0)).toArray) W := by kernel_rfl
set_option maxRecDepth 100000 in
set_option maxHeartbeats 1600000 in
/-- The closure of rowOf puts a number into a field of the row. -/
theorem put_is {b : Nat} {fs : List Fd} (hl : fs.length = 13) (k : Nat) (hk : k < 13) (K n : Int) (hK : 0 ≤ K ∧ K ≤ 255) (hn : 0 ≤ n ∧ n ≤ 18446744073709551615) (w : World) (hb : Box w b (flatR LF fs)) :
    Calls Try.prog 31 #[.int .i64 k, .int .u8 K, .int .u64 n, .pointer (some ⟨b, 0, none⟩)] w fun e w' => e = .returned (.tuple #[]) ∧ Stored w b (flatR LF (fs.set k (fdN K n))) w' := by
  have HU := Lib.hid (flatR_upd (L := LF) (xs := fs) (k := k) (by omega) (fdN K n))
  have HV : LF.f (fdN K n) = fcell K n zeroD := fdN_v hK hn
  rw [HV] at HU
  have BF := fun W => bfld K n W
  have SF := Lib.hid (sizeC K n zeroD rfl)
  have OF := Lib.hid (oneC K n zeroD)
  have LN : Hid ((fcell K n zeroD).length = 34) := Lib.hid (fcell_len _ _ _ rfl)
  have LL := Lib.hid (flat_len hl)
  have hb2 := hb
  obtain ⟨C, hC⟩ : ∃ C, fcell K n zeroD = C := ⟨_, rfl⟩
  obtain ⟨R, hR⟩ : ∃ R, flatR LF fs = R := ⟨_, rfl⟩
  obtain ⟨R2, hR2⟩ : ∃ R, flatR LF (fs.set k (fdN K n)) = R := ⟨_, rfl⟩
  rw [hC] at HU BF SF OF LN
  rw [hR] at HU LL hb hb2
  rw [hR2] at HU ⊢
  have i3 : (k : Int) < 13 := by omega
  have i4 : (0 : Int) ≤ (k : Int) := by omega
  have zb := hb.lt
  clear HV hC hR hR2 hl
  go_enter Try.func31, Try.ntmps31
  go_wp2_with (first | (refine wpList_build9 rfl 54 _ rfl (us := #[(0, .int .u8 K), (1, .int .u64 n)]) (by rfl) (BF _) ?_) | (refine wpList_store_part (k := k * 34) (cs := C) (ws := R2) rfl _ _ _ rfl hb2 rfl rfl SF.out (by rw [LN.out, LL.out]; omega) HU.out OF.out ?_; intro w1 hW1))
  go_returns
  exact ⟨rfl, hW1⟩
set_option maxRecDepth 100000 in
set_option maxHeartbeats 6400000 in
theorem rowof_is (r : Rep) (w : World) : Calls Try.prog 21 #[.agg r.v.toArray] w fun e w' => e = .returned (.agg (flatR LF r.row).toArray) ∧ Below w.heap.size w w' := by
  have SV := Lib.hid (size_rep r)
  have DM := Lib.hid (rep_mid r)
  have v0 : r.v[0]? = some (.int .u8 r.c) := rfl
  have v1 : r.v[1]? = some (.int .u32 r.t) := rfl
  have v5 : r.v[5]? = some (.int .u64 r.x) := rfl
  have HZ := fun W => zero_row W
  have HP := Lib.hid (fun (k : Nat) (h : k < 13) => zrow_put h)
  have HL := Lib.hid (fun (k : Nat) (h : k ≤ 13) => flat_len (zrow_len h))
  have hmf : ∀ (fn : Fn) (first cap : Array Value) (w : World), (Instr.makeFunc fn first cap).run Try.prog w = .ok (.func fn first cap) w := fun _ _ _ _ => rfl
  have wr_c : IntKind.u64.wrap r.c = r.c := by have := r.hc; rw [IntKind.wrap_u64]; omega
  have wr_t : IntKind.u64.wrap r.t = r.t := by have := r.ht; rw [IntKind.wrap_u64]; omega
  have wr_a : IntKind.u64.wrap r.a = r.a := by have := r.ha; rw [IntKind.wrap_u64]; omega
  have wr_b : IntKind.u64.wrap r.b = r.b := by have := r.hb; rw [IntKind.wrap_u64]; omega
  have wr_d : IntKind.u64.wrap r.d = r.d := by have := r.hd; rw [IntKind.wrap_u64]; omega
  obtain ⟨f0, hf0⟩ : ∃ f, zrow 13 = f := ⟨_, rfl⟩
  have n0 : f0.length = 13 := by rw [← hf0]; rfl
  obtain ⟨f1, hf1⟩ : ∃ f, f0.set 0 (fdN 2 r.c) = f := ⟨_, rfl⟩
  have n1 : f1.length = 13 := by rw [← hf1, List.length_set, n0]
  have P0 := fun (W : World) (b : Nat) (h : Box W b (flatR LF f0)) => put_is n0 0 (by decide) 2 r.c (by decide) (k8 r.hc) W h
  rw [hf1] at P0
  obtain ⟨f2, hf2⟩ : ∃ f, f1.set 4 (fdN 4 r.t) = f := ⟨_, rfl⟩
  have n2 : f2.length = 13 := by rw [← hf2, List.length_set, n1]
  have P1 := fun (W : World) (b : Nat) (h : Box W b (flatR LF f1)) => put_is n1 4 (by decide) 4 r.t (by decide) (k32 r.ht) W h
  rw [hf2] at P1
  obtain ⟨f3, hf3⟩ : ∃ f, f2.set 5 (fdN 4 r.a) = f := ⟨_, rfl⟩
  have n3 : f3.length = 13 := by rw [← hf3, List.length_set, n2]
  have P2 := fun (W : World) (b : Nat) (h : Box W b (flatR LF f2)) => put_is n2 5 (by decide) 4 r.a (by decide) (k32 r.ha) W h
  rw [hf3] at P2
  obtain ⟨f4, hf4⟩ : ∃ f, f3.set 6 (fdN 4 r.b) = f := ⟨_, rfl⟩
  have n4 : f4.length = 13 := by rw [← hf4, List.length_set, n3]
  have P3 := fun (W : World) (b : Nat) (h : Box W b (flatR LF f3)) => put_is n3 6 (by decide) 4 r.b (by decide) (k32 r.hb) W h
  rw [hf4] at P3
  obtain ⟨f5, hf5⟩ : ∃ f, f4.set 7 (fdN 4 r.d) = f := ⟨_, rfl⟩
  have n5 : f5.length = 13 := by rw [← hf5, List.length_set, n4]
  have P4 := fun (W : World) (b : Nat) (h : Box W b (flatR LF f4)) => put_is n4 7 (by decide) 4 r.d (by decide) (k32 r.hd) W h
  rw [hf5] at P4
  obtain ⟨f6, hf6⟩ : ∃ f, f5.set 8 (fdN 5 r.x) = f := ⟨_, rfl⟩
  have n6 : f6.length = 13 := by rw [← hf6, List.length_set, n5]
  have P5 := fun (W : World) (b : Nat) (h : Box W b (flatR LF f5)) => put_is n5 8 (by decide) 5 r.x (by decide) r.hx W h
  rw [hf6] at P5
  have hrow : f6 = r.row := by rw [← hf6, ← hf5, ← hf4, ← hf3, ← hf2, ← hf1, ← hf0]; rfl
  rw [← hrow]
  obtain ⟨R0, hR0⟩ : ∃ R, flatR LF f0 = R := ⟨_, rfl⟩
  obtain ⟨R1, hR1⟩ : ∃ R, flatR LF f1 = R := ⟨_, rfl⟩
  obtain ⟨R2, hR2⟩ : ∃ R, flatR LF f2 = R := ⟨_, rfl⟩
  obtain ⟨R3, hR3⟩ : ∃ R, flatR LF f3 = R := ⟨_, rfl⟩
  obtain ⟨R4, hR4⟩ : ∃ R, flatR LF f4 = R := ⟨_, rfl⟩
  obtain ⟨R5, hR5⟩ : ∃ R, flatR LF f5 = R := ⟨_, rfl⟩
  obtain ⟨R6, hR6⟩ : ∃ R, flatR LF f6 = R := ⟨_, rfl⟩
  have SR := Lib.hid (row_size n6); have OR := Lib.hid (flat_one f6); have LR : Hid ((flatR LF (zrow 0)).length = (flatR LF f6).length) := Lib.hid (by rw [flat_len n6]; rfl); have S0 := Lib.hid (row_size (xs := zrow 0) rfl)
  rw [hR0, hR1] at P0
  rw [hR1, hR2] at P1
  rw [hR2, hR3] at P2
  rw [hR3, hR4] at P3
  rw [hR4, hR5] at P4
  rw [hR5, hR6] at P5
  rw [hR6] at SR OR LR ⊢
  have E13 : Hid (flatR LF (zrow 13) = R0) := Lib.hid (by rw [hf0, hR0])
  have I0 : ∀ W : World, (Instr.index 23 (.agg #[.int .u32 r.a, .int .u32 r.b, .int .u32 r.d]) (.int .i64 0)).run Try.prog W = .ok (.int .u32 r.a) W := fun W => by kernel_rfl
  have I1 : ∀ W : World, (Instr.index 23 (.agg #[.int .u32 r.a, .int .u32 r.b, .int .u32 r.d]) (.int .i64 1)).run Try.prog W = .ok (.int .u32 r.b) W := fun W => by kernel_rfl
  have I2 : ∀ W : World, (Instr.index 23 (.agg #[.int .u32 r.a, .int .u32 r.b, .int .u32 r.d]) (.int .i64 2)).run Try.prog W = .ok (.int .u32 r.d) W := fun W => by kernel_rfl
  have SM : (Try.prog.info? 23).map (·.size) = some [Value.int .u32 r.a, Value.int .u32 r.b, Value.int .u32 r.d].length := by kernel_rfl
  have SM := Lib.hid SM
  clear hf0 hR0 n0 hf1 hR1 n1 hf2 hR2 n2 hf3 hR3 n3 hf4 hR4 n4 hf5 hR5 n5 hf6 hR6 n6 hrow
  obtain ⟨zc, hzc⟩ : ∃ z, r.c = z := ⟨_, rfl⟩
  obtain ⟨zt, hzt⟩ : ∃ z, r.t = z := ⟨_, rfl⟩
  obtain ⟨za, hza⟩ : ∃ z, r.a = z := ⟨_, rfl⟩
  obtain ⟨zb, hzb⟩ : ∃ z, r.b = z := ⟨_, rfl⟩
  obtain ⟨zd, hzd⟩ : ∃ z, r.d = z := ⟨_, rfl⟩
  obtain ⟨zx, hzx⟩ : ∃ z, r.x = z := ⟨_, rfl⟩
  rw [hzc] at v0 wr_c P0; rw [hzt] at v1 wr_t P1; rw [hza] at DM wr_a P2 I0 I1 I2 SM; rw [hzb] at DM wr_b P3 I0 I1 I2 SM; rw [hzd] at DM wr_d P4 I0 I1 I2 SM; rw [hzx] at v5 DM P5
  obtain ⟨V, hV⟩ : ∃ V, r.v = V := ⟨_, rfl⟩
  rw [hV] at SV v0 v1 v5 DM ⊢
  clear hV hzc hzt hza hzb hzd hzx
  obtain ⟨Z, hZ⟩ : ∃ Z, flatR LF (zrow 0) = Z := ⟨_, rfl⟩
  rw [hZ] at HZ LR S0
  have EZ := Lib.hid hZ.symm
  clear hZ
  go_enter Try.func21, Try.ntmps21
  go_upto_region 1 with fail
  refine F_gen (F := fun W => Code.wp _ _ _ _ W) (J := fun W => Box W (w.heap.size) (V) ∧ Box W (w.heap.size + 1) (Z) ∧ Below w.heap.size w W) (And.intro (Box.alloc (Box.newc rfl rfl) _) (And.intro (Box.newc rfl (by simp)) (by go_grown))) ?_
  intro w0 ⟨e_r, e_q, hB0⟩
  have hs0 := hB0.size
  have x_r0 := e_r; clear e_r
  have x_q0 := e_q; clear e_q
  go_upto_region 2 with fail
  have hn0 : Box (w0.alloc (.cells Z.toArray 55)) w0.heap.size Z := Box.newc rfl rfl
  have hbn : Below w0.heap.size w0 (w0.alloc (.cells Z.toArray 55)) := (Below.refl _ _).alloc (Nat.le_refl _) _
  obtain ⟨w1, hw1⟩ : ∃ W, w0.alloc (.cells Z.toArray 55) = W := ⟨_, rfl⟩
  obtain ⟨b3, hb3⟩ : ∃ b, w0.heap.size = b := ⟨_, rfl⟩
  have lo3 : w.heap.size + 1 < b3 := by rw [← hb3]; exact (x_q0).lt
  rw [hw1, hb3] at hn0; rw [hw1] at hbn ⊢; rw [hb3]
  have hB1 : Below w.heap.size w w1 := below_thru hB0 hbn
  have hs1 := hB1.size
  have x_r1 : Box w1 (w.heap.size) (V) := Box.below x_r0 hbn
  have x_q1 : Box w1 (w.heap.size + 1) (Z) := Box.below x_q0 hbn
  clear hB0 hs0 x_r0 x_q0
  clear hbn hw1 hb3
  have x_n1 : Box w1 (b3) (Z) := hn0
  clear hn0
  go_wp2_with fail
  go_loopw [8] (fun s8 wr => ∃ k : Nat, s8 = .int .i64 k ∧ k ≤ 13 ∧ Box wr w.heap.size V ∧ Box wr (w.heap.size + 1) Z ∧ Box wr b3 (flatR LF (zrow k)) ∧ Below w.heap.size w wr) (fun s8 _ => 13 - (intOf s8).toNat)
  case atStart => exact ⟨0, rfl, by omega, x_r1, x_q1, by rw [← EZ.out]; exact x_n1, hB1⟩
  case round =>
    clear x_r1 x_q1 x_n1 hB1 hs1
    obtain ⟨k, rfl, hk, hR, hQ, hN, hB⟩ := hrel
    have z1 := hR.lt; have z2 := hQ.lt; have z3 := hN.lt
    by_cases hlt : k < 13
    · have HS := Lib.hid (HP.out k hlt)
      have HK := Lib.hid (HL.out k hk)
      have i3 : (k : Int) < 13 := by omega
      have i4 : (0 : Int) ≤ (k : Int) := by omega
      obtain ⟨A, hA⟩ : ∃ A, flatR LF (zrow k) = A := ⟨_, rfl⟩
      obtain ⟨A2, hA2⟩ : ∃ A, flatR LF (zrow (k + 1)) = A := ⟨_, rfl⟩
      rw [hA] at hN HS HK
      rw [hA2] at HS
      have hU := Lib.hid hA2.symm
      clear hA hA2
      go_wp2_with (refine wpList_store_cell (k := k * 34) (ws := A2) (v := .int .u8 7) rfl _ _ _ rfl hN rfl rfl rfl rfl size_u8n (by rw [HK.out]; omega) HS.out.symm ?_; intro S1 hS1)
      go_roundw
      case rel => exact ⟨k + 1, by go_num, by omega, hS1.past _ _ (by omega) hR, hS1.past _ _ (by omega) hQ, by rw [← hU.out]; exact hS1.box, hS1.below _ _ (by omega) hB⟩
      case measure => simp [intOf]; omega
    · skip
      obtain rfl : k = 13 := by omega
      rw [E13.out] at hN
      clear hlt hk EZ HP HL E13 z1 z2 z3
      have x_r2 := hR; have x_q2 := hQ; have x_n2 := hN; have hB2 := hB; have hs2 := hB.size; clear hR hQ hN hB
      clear HZ
      have ca := (x_r2).c 0 _ v0
      have za := (x_r2).lt
      go_wp2_with fail
      refine (P0 _ _ x_n2).mono ?_
      rintro e p3 ⟨rfl, hS⟩
      have lr := (x_r2).lt; have lq := (x_q2).lt; have ln := (x_n2).lt
      have x_r3 : Box p3 w.heap.size V := hS.past _ _ (by omega) x_r2; have x_q3 : Box p3 (w.heap.size + 1) Z := hS.past _ _ (by omega) x_q2; have x_n3 : Box p3 b3 R1 := hS.box; have hB3 := hS.below _ _ (by omega) hB2; have hs3 := hB3.size
      clear hS lr lq ln x_r2 x_q2 x_n2 hB2 hs2 P0
      clear ca za
      have ca := (x_r3).c 1 _ v1
      have za := (x_r3).lt
      go_wp2_with fail
      refine (P1 _ _ x_n3).mono ?_
      rintro e p4 ⟨rfl, hS⟩
      have lr := (x_r3).lt; have lq := (x_q3).lt; have ln := (x_n3).lt
      have x_r4 : Box p4 w.heap.size V := hS.past _ _ (by omega) x_r3; have x_q4 : Box p4 (w.heap.size + 1) Z := hS.past _ _ (by omega) x_q3; have x_n4 : Box p4 b3 R2 := hS.box; have hB4 := hS.below _ _ (by omega) hB3; have hs4 := hB4.size
      clear hS lr lq ln x_r3 x_q3 x_n3 hB3 hs3 P1
      clear ca za
      go_upto_region 11 with (refine wpList_load_rangew rfl _ _ rfl (Box.rangeMid x_r4 2 ([.int .u32 za, .int .u32 zb, .int .u32 zd]) (_) DM.out) rfl Try.underlying23 rfl SM.out ?_)
      refine wp_loop_rounds 5 ?_
      rw [rounds_succ]
      go_wp2_with fail
      refine (P2 _ _ x_n4).mono ?_
      rintro e p5 ⟨rfl, hS⟩
      have lr := (x_r4).lt; have lq := (x_q4).lt; have ln := (x_n4).lt
      have x_r5 : Box p5 w.heap.size V := hS.past _ _ (by omega) x_r4; have x_q5 : Box p5 (w.heap.size + 1) Z := hS.past _ _ (by omega) x_q4; have x_n5 : Box p5 b3 R3 := hS.box; have hB5 := hS.below _ _ (by omega) hB4; have hs5 := hB5.size
      clear hS lr lq ln x_r4 x_q4 x_n4 hB4 hs4 P2
      go_wp2_with fail
      rw [rounds_succ]
      go_wp2_with fail
      refine (P3 _ _ x_n5).mono ?_
      rintro e p6 ⟨rfl, hS⟩
      have lr := (x_r5).lt; have lq := (x_q5).lt; have ln := (x_n5).lt
      have x_r6 : Box p6 w.heap.size V := hS.past _ _ (by omega) x_r5; have x_q6 : Box p6 (w.heap.size + 1) Z := hS.past _ _ (by omega) x_q5; have x_n6 : Box p6 b3 R4 := hS.box; have hB6 := hS.below _ _ (by omega) hB5; have hs6 := hB6.size
      clear hS lr lq ln x_r5 x_q5 x_n5 hB5 hs5 P3
      go_wp2_with fail
      rw [rounds_succ]
      go_wp2_with fail
      refine (P4 _ _ x_n6).mono ?_
      rintro e p7 ⟨rfl, hS⟩
      have lr := (x_r6).lt; have lq := (x_q6).lt; have ln := (x_n6).lt
      have x_r7 : Box p7 w.heap.size V := hS.past _ _ (by omega) x_r6; have x_q7 : Box p7 (w.heap.size + 1) Z := hS.past _ _ (by omega) x_q6; have x_n7 : Box p7 b3 R5 := hS.box; have hB7 := hS.below _ _ (by omega) hB6; have hs7 := hB7.size
      clear hS lr lq ln x_r6 x_q6 x_n6 hB6 hs6 P4
      go_wp2_with fail
      rw [rounds_succ]
      have ca := (x_r7).c 5 _ v5
      have za := (x_r7).lt
      go_wp2_with fail
      refine (P5 _ _ x_n7).mono ?_
      rintro e p8 ⟨rfl, hS⟩
      have lr := (x_r7).lt; have lq := (x_q7).lt; have ln := (x_n7).lt
      have x_r8 : Box p8 w.heap.size V := hS.past _ _ (by omega) x_r7; have x_q8 : Box p8 (w.heap.size + 1) Z := hS.past _ _ (by omega) x_q7; have x_n8 : Box p8 b3 R6 := hS.box; have hB8 := hS.below _ _ (by omega) hB7; have hs8 := hB8.size
      clear hS lr lq ln x_r7 x_q7 x_n7 hB7 hs7 P5
      clear ca za
      have lq := (x_q8).lt
      go_wp2_with (first | (refine wpList_load_box9 rfl _ _ rfl x_n8 rfl Try.underlying55 rfl SR.out ?_) | (refine wpList_store_box (cs := R6) rfl _ _ _ rfl x_q8 rfl rfl SR.out LR.out OR.out ?_; intro W9 hW9))
      exact bodyPost_ret (results_box Try.results21 hW9.box rfl Try.underlying55 rfl SR.out) rfl ⟨rfl, hW9.below _ _ (by omega) hB8⟩

end Go.Proofs.Ytipkgflonioacaa
