/-
  The reference of layer 9, walked: Parse of 88 bytes.
-/
import Derived.Test.YtkpdlbcmnfphmaaRFmF
namespace Go.Proofs.Ytkpdlbcmnfphmaa
open Go.RowKit

theorem cut_mid {bs pre mid post : List Int} {k m : Nat} (h : bs = pre ++ (mid ++ post)) (h1 : pre.length = k) (h2 : mid.length = m) : (bs.take (k + m)).drop k = mid := by
  subst h1 h2
  rw [h, List.drop_take, List.drop_left' rfl, Nat.add_sub_cancel_left, List.take_left' rfl]
theorem nth_mid {bs pre post : List Int} {k : Nat} (h : bs = pre ++ post) (h1 : pre.length = k) (i : Nat) : nth bs (k + i) = nth post i := by
  subst h1
  rw [h, nth_append_right (by omega), Nat.add_sub_cancel_left]
/-- A command's cells with another Tag. -/
def ccg (c : Cmd) (g : List Int) : List Value :=
  .int .u8 c.op :: .int .u32 c.t :: .int .u32 c.u :: .int .i64 c.l0.b :: .int .i64 c.l0.r :: .int .i64 c.l0.p :: .int .i64 c.l1.b :: .int .i64 c.l1.r :: .int .i64 c.l1.p ::
    .int .i64 c.l2.b :: .int .i64 c.l2.r :: .int .i64 c.l2.p :: .int .u8 c.us :: .int .u8 c.en :: .int .u64 c.x :: g.map (Value.int .u8)
theorem ccg_set (c : Cmd) (y : List Int) (i : Nat) (x : Int) : (ccg c y).set (15 + i) (.int .u8 x) = ccg c (y.set i x) := by
  rw [Nat.add_comm]
  unfold ccg
  rw [List.map_set]
  rfl
theorem ccg_len (c : Cmd) {g : List Int} (h : g.length = 32) : (ccg c g).length = 47 := by simp [ccg, h]
set_option maxRecDepth 100000 in
theorem build_k6 (op t u us en x : Int) (W : World) : (Instr.build 31 #[(0, .int .u8 op), (1, .int .u32 t), (2, .int .u32 u), (4, .int .u8 us), (5, .int .u8 en), (6, .int .u64 x)]).run Try.prog W =
    .ok (.agg (.int .u8 op :: .int .u32 t :: .int .u32 u :: .int .i64 0 :: .int .i64 0 :: .int .i64 0 :: .int .i64 0 :: .int .i64 0 :: .int .i64 0 :: .int .i64 0 :: .int .i64 0 :: .int .i64 0 :: .int .u8 us :: .int .u8 en :: .int .u64 x :: zeroD.map (Value.int .u8)).toArray) W := by kernel_rfl
/-- A command without limits and Tag. -/
def Cmd.k6 (c : Cmd) : Cmd := ⟨c.op, c.t, c.u, Lm.zero, Lm.zero, Lm.zero, c.us, c.en, c.x, zeroD, c.hop, c.ht, c.hu, c.hus, c.hen, c.hx, zeroD_len, zeroD_byts⟩
theorem be_one {n : Int} (h : 0 ≤ n ∧ n ≤ 255) : be 1 n = [n] := by unfold be be; simp; omega

set_option maxRecDepth 100000 in
set_option maxHeartbeats 25600000 in
theorem rp_88 (c : Cmd) (hw : c.wd) (x : Int) {G : Frm} {q : Int} (hc : RCase (Frm.cmd c) (x :: (beL wsC c.ns ++ c.g)) G q) {v : Value} (w : World) (h1 : IsL w .u8 v (x :: (beL wsC c.ns ++ c.g))) : Calls Try.prog 23 #[v] w fun e w' => e = .returned (.tuple #[.agg (mcell G).toArray, .int .i64 q]) ∧ Below w.heap.size w w' := by
  have hcase := Lib.hid hc
  unfold RCase at hcase
  clear hc
  have E : (x :: (beL wsC c.ns ++ c.g)) = [x, c.op] ++ (be 4 c.t ++ (be 4 c.u ++ (be 4 c.l0.b ++ (be 4 c.l0.r ++ (be 4 c.l0.p ++ (be 4 c.l1.b ++ (be 4 c.l1.r ++ (be 4 c.l1.p ++ (be 4 c.l2.b ++ (be 4 c.l2.r ++ (be 4 c.l2.p ++ ([c.us, c.en] ++ (be 8 c.x ++ (c.g)))))))))))))) := by
    unfold wsC Cmd.ns
    simp only [beL, be_one c.hop, be_one c.hus, be_one c.hen]
    simp
  obtain ⟨bs, hbs⟩ : ∃ X, (x :: (beL wsC c.ns ++ c.g)) = X := ⟨_, rfl⟩
  rw [hbs] at hcase h1 E
  clear hbs
  have hl : bs.length = 88 := by rw [E]; simp [be_len, c.hg]
  obtain ⟨a0, c0, rfl, hr, _⟩ := id h1
  have i1 := hr.room
  have i2 := hr.most
  obtain ⟨b, off, rfl, cb0⟩ := h1.get 0 (by omega)
  have HV := Lib.hid h1
  have CW0 : ∀ (W : World) (v : Value), IsL W .u8 v bs → Calls Try.prog 35 #[v, .int .i64 2] W fun e w' => e = .returned (.int .u32 c.t) ∧ Below W.heap.size W w' := fun W v h => word9_is (k := 2) W h (by omega) (by omega) (cut_mid (pre := ([x, c.op])) (mid := be 4 c.t) (post := be 4 c.u ++ (be 4 c.l0.b ++ (be 4 c.l0.r ++ (be 4 c.l0.p ++ (be 4 c.l1.b ++ (be 4 c.l1.r ++ (be 4 c.l1.p ++ (be 4 c.l2.b ++ (be 4 c.l2.r ++ (be 4 c.l2.p ++ ([c.us, c.en] ++ (be 8 c.x ++ (c.g))))))))))))) (by rw [E] <;> simp) (by simp) (be_len 4 _)) (be_byts _ _) (num_be 4 c.t c.ht.1 (by have := c.ht; rw [p256_4]; omega)) c.ht
  have CW1 : ∀ (W : World) (v : Value), IsL W .u8 v bs → Calls Try.prog 35 #[v, .int .i64 6] W fun e w' => e = .returned (.int .u32 c.u) ∧ Below W.heap.size W w' := fun W v h => word9_is (k := 6) W h (by omega) (by omega) (cut_mid (pre := ([x, c.op] ++ be 4 c.t)) (mid := be 4 c.u) (post := be 4 c.l0.b ++ (be 4 c.l0.r ++ (be 4 c.l0.p ++ (be 4 c.l1.b ++ (be 4 c.l1.r ++ (be 4 c.l1.p ++ (be 4 c.l2.b ++ (be 4 c.l2.r ++ (be 4 c.l2.p ++ ([c.us, c.en] ++ (be 8 c.x ++ (c.g)))))))))))) (by rw [E] <;> simp) (by simp [be_len]) (be_len 4 _)) (be_byts _ _) (num_be 4 c.u c.hu.1 (by have := c.hu; rw [p256_4]; omega)) c.hu
  have CW2 : ∀ (W : World) (v : Value), IsL W .u8 v bs → Calls Try.prog 35 #[v, .int .i64 10] W fun e w' => e = .returned (.int .u32 c.l0.b) ∧ Below W.heap.size W w' := fun W v h => word9_is (k := 10) W h (by omega) (by omega) (cut_mid (pre := ([x, c.op] ++ be 4 c.t ++ be 4 c.u)) (mid := be 4 c.l0.b) (post := be 4 c.l0.r ++ (be 4 c.l0.p ++ (be 4 c.l1.b ++ (be 4 c.l1.r ++ (be 4 c.l1.p ++ (be 4 c.l2.b ++ (be 4 c.l2.r ++ (be 4 c.l2.p ++ ([c.us, c.en] ++ (be 8 c.x ++ (c.g))))))))))) (by rw [E] <;> simp) (by simp [be_len]) (be_len 4 _)) (be_byts _ _) (num_be 4 c.l0.b hw.1.1.1 (by have := hw.1.1; rw [p256_4]; omega)) hw.1.1
  have CW3 : ∀ (W : World) (v : Value), IsL W .u8 v bs → Calls Try.prog 35 #[v, .int .i64 14] W fun e w' => e = .returned (.int .u32 c.l0.r) ∧ Below W.heap.size W w' := fun W v h => word9_is (k := 14) W h (by omega) (by omega) (cut_mid (pre := ([x, c.op] ++ be 4 c.t ++ be 4 c.u ++ be 4 c.l0.b)) (mid := be 4 c.l0.r) (post := be 4 c.l0.p ++ (be 4 c.l1.b ++ (be 4 c.l1.r ++ (be 4 c.l1.p ++ (be 4 c.l2.b ++ (be 4 c.l2.r ++ (be 4 c.l2.p ++ ([c.us, c.en] ++ (be 8 c.x ++ (c.g)))))))))) (by rw [E] <;> simp) (by simp [be_len]) (be_len 4 _)) (be_byts _ _) (num_be 4 c.l0.r hw.1.2.1.1 (by have := hw.1.2.1; rw [p256_4]; omega)) hw.1.2.1
  have CW4 : ∀ (W : World) (v : Value), IsL W .u8 v bs → Calls Try.prog 35 #[v, .int .i64 18] W fun e w' => e = .returned (.int .u32 c.l0.p) ∧ Below W.heap.size W w' := fun W v h => word9_is (k := 18) W h (by omega) (by omega) (cut_mid (pre := ([x, c.op] ++ be 4 c.t ++ be 4 c.u ++ be 4 c.l0.b ++ be 4 c.l0.r)) (mid := be 4 c.l0.p) (post := be 4 c.l1.b ++ (be 4 c.l1.r ++ (be 4 c.l1.p ++ (be 4 c.l2.b ++ (be 4 c.l2.r ++ (be 4 c.l2.p ++ ([c.us, c.en] ++ (be 8 c.x ++ (c.g))))))))) (by rw [E] <;> simp) (by simp [be_len]) (be_len 4 _)) (be_byts _ _) (num_be 4 c.l0.p hw.1.2.2.1 (by have := hw.1.2.2; rw [p256_4]; omega)) hw.1.2.2
  have CW5 : ∀ (W : World) (v : Value), IsL W .u8 v bs → Calls Try.prog 35 #[v, .int .i64 22] W fun e w' => e = .returned (.int .u32 c.l1.b) ∧ Below W.heap.size W w' := fun W v h => word9_is (k := 22) W h (by omega) (by omega) (cut_mid (pre := ([x, c.op] ++ be 4 c.t ++ be 4 c.u ++ be 4 c.l0.b ++ be 4 c.l0.r ++ be 4 c.l0.p)) (mid := be 4 c.l1.b) (post := be 4 c.l1.r ++ (be 4 c.l1.p ++ (be 4 c.l2.b ++ (be 4 c.l2.r ++ (be 4 c.l2.p ++ ([c.us, c.en] ++ (be 8 c.x ++ (c.g)))))))) (by rw [E] <;> simp) (by simp [be_len]) (be_len 4 _)) (be_byts _ _) (num_be 4 c.l1.b hw.2.1.1.1 (by have := hw.2.1.1; rw [p256_4]; omega)) hw.2.1.1
  have CW6 : ∀ (W : World) (v : Value), IsL W .u8 v bs → Calls Try.prog 35 #[v, .int .i64 26] W fun e w' => e = .returned (.int .u32 c.l1.r) ∧ Below W.heap.size W w' := fun W v h => word9_is (k := 26) W h (by omega) (by omega) (cut_mid (pre := ([x, c.op] ++ be 4 c.t ++ be 4 c.u ++ be 4 c.l0.b ++ be 4 c.l0.r ++ be 4 c.l0.p ++ be 4 c.l1.b)) (mid := be 4 c.l1.r) (post := be 4 c.l1.p ++ (be 4 c.l2.b ++ (be 4 c.l2.r ++ (be 4 c.l2.p ++ ([c.us, c.en] ++ (be 8 c.x ++ (c.g))))))) (by rw [E] <;> simp) (by simp [be_len]) (be_len 4 _)) (be_byts _ _) (num_be 4 c.l1.r hw.2.1.2.1.1 (by have := hw.2.1.2.1; rw [p256_4]; omega)) hw.2.1.2.1
  have CW7 : ∀ (W : World) (v : Value), IsL W .u8 v bs → Calls Try.prog 35 #[v, .int .i64 30] W fun e w' => e = .returned (.int .u32 c.l1.p) ∧ Below W.heap.size W w' := fun W v h => word9_is (k := 30) W h (by omega) (by omega) (cut_mid (pre := ([x, c.op] ++ be 4 c.t ++ be 4 c.u ++ be 4 c.l0.b ++ be 4 c.l0.r ++ be 4 c.l0.p ++ be 4 c.l1.b ++ be 4 c.l1.r)) (mid := be 4 c.l1.p) (post := be 4 c.l2.b ++ (be 4 c.l2.r ++ (be 4 c.l2.p ++ ([c.us, c.en] ++ (be 8 c.x ++ (c.g)))))) (by rw [E] <;> simp) (by simp [be_len]) (be_len 4 _)) (be_byts _ _) (num_be 4 c.l1.p hw.2.1.2.2.1 (by have := hw.2.1.2.2; rw [p256_4]; omega)) hw.2.1.2.2
  have CW8 : ∀ (W : World) (v : Value), IsL W .u8 v bs → Calls Try.prog 35 #[v, .int .i64 34] W fun e w' => e = .returned (.int .u32 c.l2.b) ∧ Below W.heap.size W w' := fun W v h => word9_is (k := 34) W h (by omega) (by omega) (cut_mid (pre := ([x, c.op] ++ be 4 c.t ++ be 4 c.u ++ be 4 c.l0.b ++ be 4 c.l0.r ++ be 4 c.l0.p ++ be 4 c.l1.b ++ be 4 c.l1.r ++ be 4 c.l1.p)) (mid := be 4 c.l2.b) (post := be 4 c.l2.r ++ (be 4 c.l2.p ++ ([c.us, c.en] ++ (be 8 c.x ++ (c.g))))) (by rw [E] <;> simp) (by simp [be_len]) (be_len 4 _)) (be_byts _ _) (num_be 4 c.l2.b hw.2.2.1.1 (by have := hw.2.2.1; rw [p256_4]; omega)) hw.2.2.1
  have CW9 : ∀ (W : World) (v : Value), IsL W .u8 v bs → Calls Try.prog 35 #[v, .int .i64 38] W fun e w' => e = .returned (.int .u32 c.l2.r) ∧ Below W.heap.size W w' := fun W v h => word9_is (k := 38) W h (by omega) (by omega) (cut_mid (pre := ([x, c.op] ++ be 4 c.t ++ be 4 c.u ++ be 4 c.l0.b ++ be 4 c.l0.r ++ be 4 c.l0.p ++ be 4 c.l1.b ++ be 4 c.l1.r ++ be 4 c.l1.p ++ be 4 c.l2.b)) (mid := be 4 c.l2.r) (post := be 4 c.l2.p ++ ([c.us, c.en] ++ (be 8 c.x ++ (c.g)))) (by rw [E] <;> simp) (by simp [be_len]) (be_len 4 _)) (be_byts _ _) (num_be 4 c.l2.r hw.2.2.2.1.1 (by have := hw.2.2.2.1; rw [p256_4]; omega)) hw.2.2.2.1
  have CW10 : ∀ (W : World) (v : Value), IsL W .u8 v bs → Calls Try.prog 35 #[v, .int .i64 42] W fun e w' => e = .returned (.int .u32 c.l2.p) ∧ Below W.heap.size W w' := fun W v h => word9_is (k := 42) W h (by omega) (by omega) (cut_mid (pre := ([x, c.op] ++ be 4 c.t ++ be 4 c.u ++ be 4 c.l0.b ++ be 4 c.l0.r ++ be 4 c.l0.p ++ be 4 c.l1.b ++ be 4 c.l1.r ++ be 4 c.l1.p ++ be 4 c.l2.b ++ be 4 c.l2.r)) (mid := be 4 c.l2.p) (post := [c.us, c.en] ++ (be 8 c.x ++ (c.g))) (by rw [E] <;> simp) (by simp [be_len]) (be_len 4 _)) (be_byts _ _) (num_be 4 c.l2.p hw.2.2.2.2.1 (by have := hw.2.2.2.2; rw [p256_4]; omega)) hw.2.2.2.2
  have c8 : (bs.take (48 + 8)).drop 48 = be 8 c.x := cut_mid (pre := ([x, c.op] ++ be 4 c.t ++ be 4 c.u ++ be 4 c.l0.b ++ be 4 c.l0.r ++ be 4 c.l0.p ++ be 4 c.l1.b ++ be 4 c.l1.r ++ be 4 c.l1.p ++ be 4 c.l2.b ++ be 4 c.l2.r ++ be 4 c.l2.p) ++ [c.us, c.en]) (mid := be 8 c.x) (post := c.g) (by rw [E] <;> simp) (by simp [be_len]) (be_len 8 _)
  have n1 : nth bs 1 = c.op := by rw [E]; rfl
  have n46 : nth bs 46 = c.us := nth_mid (pre := ([x, c.op] ++ be 4 c.t ++ be 4 c.u ++ be 4 c.l0.b ++ be 4 c.l0.r ++ be 4 c.l0.p ++ be 4 c.l1.b ++ be 4 c.l1.r ++ be 4 c.l1.p ++ be 4 c.l2.b ++ be 4 c.l2.r ++ be 4 c.l2.p)) (post := [c.us, c.en] ++ (be 8 c.x ++ c.g)) (by rw [E] <;> simp) (by simp [be_len]) 0
  have n47 : nth bs 47 = c.en := nth_mid (pre := ([x, c.op] ++ be 4 c.t ++ be 4 c.u ++ be 4 c.l0.b ++ be 4 c.l0.r ++ be 4 c.l0.p ++ be 4 c.l1.b ++ be 4 c.l1.r ++ be 4 c.l1.p ++ be 4 c.l2.b ++ be 4 c.l2.r ++ be 4 c.l2.p)) (post := [c.us, c.en] ++ (be 8 c.x ++ c.g)) (by rw [E] <;> simp) (by simp [be_len]) 1
  have HN := Lib.hid (fun (i : Nat) => (show nth bs (56 + i) = nth c.g i from nth_mid (pre := ([x, c.op] ++ be 4 c.t ++ be 4 c.u ++ be 4 c.l0.b ++ be 4 c.l0.r ++ be 4 c.l0.p ++ be 4 c.l1.b ++ be 4 c.l1.r ++ be 4 c.l1.p ++ be 4 c.l2.b ++ be 4 c.l2.r ++ be 4 c.l2.p) ++ [c.us, c.en] ++ be 8 c.x) (post := c.g) (by rw [E] <;> simp) (by simp [be_len]) i))
  have cb1 : w.cell? ⟨b, off + 1, none⟩ = some (.int .u8 c.op) := by obtain ⟨b', off', e', hc'⟩ := h1.get 1 (by omega); cases e'; rw [n1] at hc'; exact hc'
  have cb46 : w.cell? ⟨b, off + 46, none⟩ = some (.int .u8 c.us) := by obtain ⟨b', off', e', hc'⟩ := h1.get 46 (by omega); cases e'; rw [n46] at hc'; exact hc'
  have cb47 : w.cell? ⟨b, off + 47, none⟩ = some (.int .u8 c.en) := by obtain ⟨b', off', e', hc'⟩ := h1.get 47 (by omega); cases e'; rw [n47] at hc'; exact hc'
  have S8 := Lib.hid (show IsL w .u8 (.slice (some ⟨b, off + 48, none⟩) 8 (c0 - 48)) (be 8 c.x) by rw [← c8]; exact (h1.taken (m := 48 + 8) (by omega)).dropped (by rw [List.length_take]; omega) (by rw [List.length_take]; omega) rfl (Or.inl rfl))
  have N8 := fun (W : World) (v : Value) (h : IsL W .u8 v (be 8 c.x)) => rnum_is W h (by rw [be_len]; omega) (be_byts _ _)
  rw [num_be 8 c.x c.hx.1 (by have := c.hx; rw [p256_8]; omega)] at N8
  have BK := fun W => build_k6 c.op c.t c.u c.us c.en c.x W
  have U0e : ccell c.k6 = .int .u8 c.op :: .int .u32 c.t :: .int .u32 c.u :: .int .i64 0 :: .int .i64 0 :: .int .i64 0 :: .int .i64 0 :: .int .i64 0 :: .int .i64 0 :: .int .i64 0 :: .int .i64 0 :: .int .i64 0 :: .int .u8 c.us :: .int .u8 c.en :: .int .u64 c.x :: zeroD.map (Value.int .u8) := rfl
  rw [← U0e] at BK; clear U0e
  have S0 := Lib.hid (size_cmd c.k6); have L0 := Lib.hid (len_cmd Cmd.zero c.k6); have O0 := Lib.hid (one_cmd c.k6)
  have SZ := Lib.hid (size_frm Frm.zero); have OZ := Lib.hid (one_frm Frm.zero); have LZ := Lib.hid (len_frm Frm.zero Frm.zero); have BZ0 := fun W => build_m0 W; have SVF := Lib.hid (size_frm (Frm.cmd c)); have SCM := Lib.hid (size_cmd c); have OCM := Lib.hid (one_cmd c); have NCM : Hid ((ccell c).length = 47) := Lib.hid (ccell_len c)
  obtain ⟨F1, X1⟩ : ∃ U, Hid (U = (mcell Frm.zero).set 0 (.int .u8 2)) := ⟨_, Lib.hid rfl⟩
  have M0 : Hid ((mcell Frm.zero).length = 86) := Lib.hid (mcell_len _); have M1 : Hid (F1.length = 86) := Lib.hid (by rw [X1.out, List.length_set, M0.out])
  have X2 : Hid (mcell (Frm.cmd c) = F1.take 39 ++ ccell c ++ F1.drop (39 + (ccell c).length)) := Lib.hid (by
    have e0 : F1 = .int .u8 2 :: (rcell Req.zero ++ ccell Cmd.zero) := by rw [X1.out]; rfl
    have e1 : F1.take 39 = .int .u8 2 :: rcell Req.zero := by rw [e0, show (39 : Nat) = 38 + 1 from rfl, List.take_succ_cons, List.take_left' (rcell_len _)]
    have e2 : F1.drop (39 + (ccell c).length) = [] := List.drop_of_length_le (by rw [M1.out, ccell_len]; decide)
    rw [e1, e2, List.append_nil]; rfl)
  have BL0 := fun W => build_lm c.l0.b c.l0.r c.l0.p W
  have SM0 := Lib.hid (size_lm c.l0); have OM0 := Lib.hid (one_lm c.l0); have NM0 : Hid (c.l0.v.length = 3) := Lib.hid rfl
  obtain ⟨U1, W1⟩ : ∃ U, Hid (U = (ccell c.k6).take 3 ++ c.l0.v ++ (ccell c.k6).drop (3 + c.l0.v.length)) := ⟨_, Lib.hid rfl⟩
  have BL1 := fun W => build_lm c.l1.b c.l1.r c.l1.p W
  have SM1 := Lib.hid (size_lm c.l1); have OM1 := Lib.hid (one_lm c.l1); have NM1 : Hid (c.l1.v.length = 3) := Lib.hid rfl
  obtain ⟨U2, W2⟩ : ∃ U, Hid (U = (U1).take 6 ++ c.l1.v ++ (U1).drop (6 + c.l1.v.length)) := ⟨_, Lib.hid rfl⟩
  have BL2 := fun W => build_lm c.l2.b c.l2.r c.l2.p W
  have SM2 := Lib.hid (size_lm c.l2); have OM2 := Lib.hid (one_lm c.l2); have NM2 : Hid (c.l2.v.length = 3) := Lib.hid rfl
  obtain ⟨U3, W3⟩ : ∃ U, Hid (U = (U2).take 9 ++ c.l2.v ++ (U2).drop (9 + c.l2.v.length)) := ⟨_, Lib.hid rfl⟩
  have N0 : Hid ((ccell c.k6).length = 47) := Lib.hid (ccell_len _)
  have N1 : Hid (U1.length = 47) := Lib.hid (by rw [W1.out]; have := N0.out; simp only [List.length_append, List.length_take, List.length_drop, this, NM0.out]; rfl)
  have N2 : Hid (U2.length = 47) := Lib.hid (by rw [W2.out]; have := N1.out; simp only [List.length_append, List.length_take, List.length_drop, this, NM1.out]; rfl)
  have N3 : Hid (U3.length = 47) := Lib.hid (by rw [W3.out]; have := N2.out; simp only [List.length_append, List.length_take, List.length_drop, this, NM2.out]; rfl)
  have W4 : Hid (U3 = ccg c zeroD) := Lib.hid (by rw [W3.out, W2.out, W1.out]; simp [ccell, ccg, Cmd.k6, Lm.v])
  have hg := c.hg
  have G0 : Hid (ccg c (gS c.g 0) = ccg c zeroD) := Lib.hid rfl
  have GA : Hid (ccg c (gS c.g 32) = ccell c) := Lib.hid (by rw [gS_all hg]; rfl)
  have GS := Lib.hid (fun (i : Nat) (hi : i < 32) => (show (ccg c (gS c.g i)).set (15 + i) (.int .u8 (nth c.g i)) = ccg c (gS c.g (i + 1)) by rw [ccg_set, gS_succ hg hi]))
  have GL := Lib.hid (fun (i : Nat) (hi : i ≤ 32) => ccg_len c (gS_len hg hi))
  obtain ⟨FR, hFR⟩ : ∃ F, Frm.cmd c = F := ⟨_, rfl⟩
  rw [hFR] at hcase X2 SVF
  have hj : ¬ c0 = 48 ∧ ¬ c0 = 0 ∧ (48 : Int) ≤ (c0 : Int) ∧ (56 : Int) ≤ (c0 : Int) := by omega
  obtain ⟨j48, j0, q48, q56⟩ := hj
  rw [hl] at HV ⊢
  have HL := Lib.hid hl
  obtain ⟨V, hV⟩ : ∃ V, mcell FR = V := ⟨_, rfl⟩
  have HVV := Lib.hid hV
  rw [hV] at X2 SVF
  obtain ⟨UK, hUK⟩ : ∃ V, ccell c.k6 = V := ⟨_, rfl⟩
  obtain ⟨CC, hCC⟩ : ∃ V, ccell c = V := ⟨_, rfl⟩
  obtain ⟨X8, hX8⟩ : ∃ X, be 8 c.x = X := ⟨_, rfl⟩
  rw [hUK] at BK S0 L0 O0 N0 W1
  rw [hCC] at GA SCM OCM NCM X2
  rw [hX8] at N8 S8
  have EM0 : (c.l0.v).toArray = #[.int .i64 c.l0.b, .int .i64 c.l0.r, .int .i64 c.l0.p] := rfl
  rw [← EM0] at BL0; clear EM0
  obtain ⟨K0, hK0⟩ : ∃ V, c.l0.v = V := ⟨_, rfl⟩
  rw [hK0] at BL0 SM0 OM0 NM0 W1
  have EM1 : (c.l1.v).toArray = #[.int .i64 c.l1.b, .int .i64 c.l1.r, .int .i64 c.l1.p] := rfl
  rw [← EM1] at BL1; clear EM1
  obtain ⟨K1, hK1⟩ : ∃ V, c.l1.v = V := ⟨_, rfl⟩
  rw [hK1] at BL1 SM1 OM1 NM1 W2
  have EM2 : (c.l2.v).toArray = #[.int .i64 c.l2.b, .int .i64 c.l2.r, .int .i64 c.l2.p] := rfl
  rw [← EM2] at BL2; clear EM2
  obtain ⟨K2, hK2⟩ : ∃ V, c.l2.v = V := ⟨_, rfl⟩
  rw [hK2] at BL2 SM2 OM2 NM2 W3
  have ww2 : IntKind.i64.wrap c.l0.b = c.l0.b := by have := hw.1.1; rw [IntKind.wrap_i64]; omega
  have ww3 : IntKind.i64.wrap c.l0.r = c.l0.r := by have := hw.1.2.1; rw [IntKind.wrap_i64]; omega
  have ww4 : IntKind.i64.wrap c.l0.p = c.l0.p := by have := hw.1.2.2; rw [IntKind.wrap_i64]; omega
  have ww5 : IntKind.i64.wrap c.l1.b = c.l1.b := by have := hw.2.1.1; rw [IntKind.wrap_i64]; omega
  have ww6 : IntKind.i64.wrap c.l1.r = c.l1.r := by have := hw.2.1.2.1; rw [IntKind.wrap_i64]; omega
  have ww7 : IntKind.i64.wrap c.l1.p = c.l1.p := by have := hw.2.1.2.2; rw [IntKind.wrap_i64]; omega
  have ww8 : IntKind.i64.wrap c.l2.b = c.l2.b := by have := hw.2.2.1; rw [IntKind.wrap_i64]; omega
  have ww9 : IntKind.i64.wrap c.l2.r = c.l2.r := by have := hw.2.2.2.1; rw [IntKind.wrap_i64]; omega
  have ww10 : IntKind.i64.wrap c.l2.p = c.l2.p := by have := hw.2.2.2.2; rw [IntKind.wrap_i64]; omega
  clear hr h1 hl E c8 n1 n46 n47 hFR hV hUK hCC hX8 hK0 hK1 hK2 i1 cb0 hw hg
  go_enter Try.func23, Try.ntmps23
  go_upto_region 1 with fail
  refine F_gen (F := fun W => Code.wp _ _ _ _ W) (J := fun W => Box W (w.heap.size) (mcell Frm.zero) ∧ Below w.heap.size w W) (And.intro (Box.newc rfl rfl) (by go_grown)) ?_
  intro w0 ⟨e_r, hB0⟩
  have hs0 := hB0.size
  have x_r0 := e_r; clear e_r
  have d_f_r := (x_r0).lt
  have d_f_0 := hs0
  go_upto_region 2 with (first
    | (refine wpList_build9 rfl 43 _ rfl (us := #[]) (by rfl) (BZ0 _) ?_)
    | (refine wpList_store_box (cs := mcell Frm.zero) rfl _ _ _ rfl (Box.newc (l := mcell Frm.zero) rfl rfl) rfl rfl SZ.out LZ.out OZ.out ?_; intro W0_0 hW0_0))
  have hN : Below w0.heap.size w0 W0_0 := (hW0_0.below _ _ (by omega) ((Below.refl _ w0).alloc (Nat.le_refl _) _))
  have x_f1 : Box W0_0 (w0.heap.size) (mcell Frm.zero) := hW0_0.box
  have hB1 : Below w.heap.size w W0_0 := below_thru hB0 hN
  have hs1 := hB1.size
  have x_r1 : Box W0_0 (w.heap.size) (mcell Frm.zero) := Box.below x_r0 hN
  clear hB0 hs0 x_r0
  clear hN hW0_0
  have lo2 := (x_r1).lt; have lo3 := (x_f1).lt
  go_upto_region 10 with (refine wpList_store_cell (k := 0) (ws := F1) (v := .int .u8 2) rfl _ _ _ rfl x_f1 rfl rfl rfl rfl size_u8n (by rw [M0.out]; decide) X1.out ?_; intro W7 hW7)
  have x_r2 : Box W7 (w.heap.size) (mcell Frm.zero) := hW7.past _ _ (by omega) x_r1
  have x_f2 := hW7.box
  have hB2 := hW7.below _ _ (by omega) hB1; have hs2 := hB2.size
  clear hW7 x_r1 x_f1 hB1 hs1 lo2 lo3
  simp only [Act.put]
  go_cut [7] (fun p wx => ∃ b7 : Nat, p = .pointer (some ⟨b7, 0, none⟩) ∧ w.heap.size < b7 ∧ w0.heap.size < b7 ∧ Box wx b7 UK ∧ Box wx w.heap.size (mcell Frm.zero) ∧ Box wx (w0.heap.size) F1 ∧ Below w.heap.size w wx)
  case first =>
    have cc1 := cell_below hB2 cb1
    have cc46 := cell_below hB2 cb46
    have cc47 := cell_below hB2 cb47
    refine wp_region_held_drew (S := fun W => Box W (w.heap.size) (mcell Frm.zero) ∧ Box W (w0.heap.size) (F1) ∧ W.cell? ⟨b, off + 1, none⟩ = some (.int .u8 c.op) ∧ W.cell? ⟨b, off + 46, none⟩ = some (.int .u8 c.us) ∧ W.cell? ⟨b, off + 47, none⟩ = some (.int .u8 c.en)) (by kernel_rfl) (And.intro (x_r2).drew (And.intro (x_f2).drew (And.intro cc1 (And.intro cc46 cc47)))) (fun _ => ?_)
    refine F_drew (F := fun W => wpAnyH _ _ _ _ _ _ _ _ W) ?_
    intro Ws0 hbs0
    clear hs2
    have x_r_s0 : Box Ws0 (w.heap.size) (mcell Frm.zero) := Box.below x_r2 hbs0
    have x_f_s0 : Box Ws0 (w0.heap.size) (F1) := Box.below x_f2 hbs0
    have c_k1_s0 := cell_below hbs0 cc1
    have c_k46_s0 := cell_below hbs0 cc46
    have c_k47_s0 := cell_below hbs0 cc47
    have Bs0 := below_thru hB2 hbs0
    clear x_r2 x_f2 cc1 cc46 cc47 hB2 hbs0
    refine takeH 0 35 (v := ?vs0_1) rfl (by rfl) (by kernel_rfl) (by kernel_rfl) (by kernel_rfl) (fun _ _ _ h => h) (Or.inl ⟨by rfl, ?_⟩) ((And.intro x_r_s0 (And.intro x_f_s0 (And.intro c_k1_s0 (And.intro c_k46_s0 c_k47_s0))))) ?_
    rotate_left
    · intro wq hSq
      go_simp
      exact rfl
    try simp only [Act.put, List.setIfInBounds_toArray, List.set_cons_zero, List.set_cons_succ]
    refine takeH 1 36 (v := ?vs1_2) rfl (by rfl) (by kernel_rfl) (by kernel_rfl) (by kernel_rfl) (fun _ _ _ h => h) (Or.inl ⟨by rfl, ?_⟩) ((And.intro x_r_s0 (And.intro x_f_s0 (And.intro c_k1_s0 (And.intro c_k46_s0 c_k47_s0))))) ?_
    rotate_left
    · intro wq hSq
      go_simp
      exact rfl
    try simp only [Act.put, List.setIfInBounds_toArray, List.set_cons_zero, List.set_cons_succ]
    refine takeH 2 37 (v := ?vs2_3) rfl (by rfl) (by kernel_rfl) (by kernel_rfl) (by kernel_rfl) (fun _ _ _ h => h) (Or.inl ⟨by rfl, ?_⟩) ((And.intro x_r_s0 (And.intro x_f_s0 (And.intro c_k1_s0 (And.intro c_k46_s0 c_k47_s0))))) ?_
    rotate_left
    · intro wq hSq
      have cq := hSq.2.2.1
      have zq := lt_of_cell cq
      go_simp
      exact rfl
    try simp only [Act.put, List.setIfInBounds_toArray, List.set_cons_zero, List.set_cons_succ]
    refine takeH 3 38 (v := ?vs3_4) rfl (by rfl) (by kernel_rfl) (by kernel_rfl) (by kernel_rfl) (fun _ _ _ h => h) (Or.inl ⟨by rfl, ?_⟩) ((And.intro x_r_s0 (And.intro x_f_s0 (And.intro c_k1_s0 (And.intro c_k46_s0 c_k47_s0))))) ?_
    rotate_left
    · intro wq hSq
      go_simp
      exact rfl
    try simp only [Act.put, List.setIfInBounds_toArray, List.set_cons_zero, List.set_cons_succ]
    refine takeH 5 40 (v := ?vs5_5) rfl (by rfl) (by kernel_rfl) (by kernel_rfl) (by kernel_rfl) (fun _ _ _ h => h) (Or.inl ⟨by rfl, ?_⟩) ((And.intro x_r_s0 (And.intro x_f_s0 (And.intro c_k1_s0 (And.intro c_k46_s0 c_k47_s0))))) ?_
    rotate_left
    · intro wq hSq
      go_simp
      exact rfl
    try simp only [Act.put, List.setIfInBounds_toArray, List.set_cons_zero, List.set_cons_succ]
    refine takeH 7 42 (v := ?vs7_6) rfl (by rfl) (by kernel_rfl) (by kernel_rfl) (by kernel_rfl) (fun _ _ _ h => h) (Or.inl ⟨by rfl, ?_⟩) ((And.intro x_r_s0 (And.intro x_f_s0 (And.intro c_k1_s0 (And.intro c_k46_s0 c_k47_s0))))) ?_
    rotate_left
    · intro wq hSq
      go_simp
      exact rfl
    try simp only [Act.put, List.setIfInBounds_toArray, List.set_cons_zero, List.set_cons_succ]
    refine takeH 8 43 (v := ?vs8_7) rfl (by rfl) (by kernel_rfl) (by kernel_rfl) (by kernel_rfl) (fun _ _ _ h => h) (Or.inl ⟨by rfl, ?_⟩) ((And.intro x_r_s0 (And.intro x_f_s0 (And.intro c_k1_s0 (And.intro c_k46_s0 c_k47_s0))))) ?_
    rotate_left
    · intro wq hSq
      go_simp
      exact rfl
    try simp only [Act.put, List.setIfInBounds_toArray, List.set_cons_zero, List.set_cons_succ]
    refine takeH 9 44 (v := ?vs9_8) rfl (by rfl) (by kernel_rfl) (by kernel_rfl) (by kernel_rfl) (fun _ _ _ h => h) (Or.inl ⟨by rfl, ?_⟩) ((And.intro x_r_s0 (And.intro x_f_s0 (And.intro c_k1_s0 (And.intro c_k46_s0 c_k47_s0))))) ?_
    rotate_left
    · intro wq hSq
      have cq := hSq.2.2.2.1
      have zq := lt_of_cell cq
      go_simp
      exact rfl
    try simp only [Act.put, List.setIfInBounds_toArray, List.set_cons_zero, List.set_cons_succ]
    refine takeH 10 45 (v := ?vs10_9) rfl (by rfl) (by kernel_rfl) (by kernel_rfl) (by kernel_rfl) (fun _ _ _ h => h) (Or.inl ⟨by rfl, ?_⟩) ((And.intro x_r_s0 (And.intro x_f_s0 (And.intro c_k1_s0 (And.intro c_k46_s0 c_k47_s0))))) ?_
    rotate_left
    · intro wq hSq
      go_simp
      exact rfl
    try simp only [Act.put, List.setIfInBounds_toArray, List.set_cons_zero, List.set_cons_succ]
    refine takeH 11 46 (v := ?vs11_10) rfl (by rfl) (by kernel_rfl) (by kernel_rfl) (by kernel_rfl) (fun _ _ _ h => h) (Or.inl ⟨by rfl, ?_⟩) ((And.intro x_r_s0 (And.intro x_f_s0 (And.intro c_k1_s0 (And.intro c_k46_s0 c_k47_s0))))) ?_
    rotate_left
    · intro wq hSq
      go_simp
      exact rfl
    try simp only [Act.put, List.setIfInBounds_toArray, List.set_cons_zero, List.set_cons_succ]
    refine takeH 12 47 (v := ?vs12_11) rfl (by rfl) (by kernel_rfl) (by kernel_rfl) (by kernel_rfl) (fun _ _ _ h => h) (Or.inl ⟨by rfl, ?_⟩) ((And.intro x_r_s0 (And.intro x_f_s0 (And.intro c_k1_s0 (And.intro c_k46_s0 c_k47_s0))))) ?_
    rotate_left
    · intro wq hSq
      have cq := hSq.2.2.2.2
      have zq := lt_of_cell cq
      go_simp
      exact rfl
    try simp only [Act.put, List.setIfInBounds_toArray, List.set_cons_zero, List.set_cons_succ]
    refine takeH 13 48 (v := ?vs13_12) rfl (by rfl) (by kernel_rfl) (by kernel_rfl) (by kernel_rfl) (fun _ _ _ h => h) (Or.inl ⟨by rfl, ?_⟩) ((And.intro x_r_s0 (And.intro x_f_s0 (And.intro c_k1_s0 (And.intro c_k46_s0 c_k47_s0))))) ?_
    rotate_left
    · intro wq hSq
      go_simp
      exact rfl
    try simp only [Act.put, List.setIfInBounds_toArray, List.set_cons_zero, List.set_cons_succ]
    refine takeH 14 49 (v := ?vs14_13) rfl (by rfl) (by kernel_rfl) (by kernel_rfl) (by kernel_rfl) (fun _ _ _ h => h) (Or.inl ⟨by rfl, ?_⟩) ((And.intro x_r_s0 (And.intro x_f_s0 (And.intro c_k1_s0 (And.intro c_k46_s0 c_k47_s0))))) ?_
    rotate_left
    · intro wq hSq
      go_simp
      exact rfl
    try simp only [Act.put, List.setIfInBounds_toArray, List.set_cons_zero, List.set_cons_succ]
    refine wpAnyH_ready (rs := [4, 17]) (by kernel_rfl) (by simp) (AllReadyH.cons rfl (fun K hK => ?_) (AllReadyH.cons rfl (fun K hK => ?_) AllReadyH.nil))
    · skip
      go_simp
      refine (CW0 _ _ (HV.out.below Bs0)).mono ?_
      rintro e Ws14 ⟨rfl, hbs14⟩
      have x_r_s14 : Box Ws14 (w.heap.size) (mcell Frm.zero) := Box.below x_r_s0 hbs14
      have x_f_s14 : Box Ws14 (w0.heap.size) (F1) := Box.below x_f_s0 hbs14
      have c_k1_s14 := cell_below hbs14 c_k1_s0
      have c_k46_s14 := cell_below hbs14 c_k46_s0
      have c_k47_s14 := cell_below hbs14 c_k47_s0
      have Bs14 := below_thru Bs0 hbs14
      clear x_r_s0 x_f_s0 c_k1_s0 c_k46_s0 c_k47_s0 Bs0 hbs14
      refine hK.out _ _ (And.intro x_r_s14 (And.intro x_f_s14 (And.intro c_k1_s14 (And.intro c_k46_s14 c_k47_s14)))) (fun _ => ?_); clear hK K
      refine wpAnyH_ready (rs := [6, 17]) (by kernel_rfl) (by simp) (AllReadyH.cons rfl (fun K hK => ?_) (AllReadyH.cons rfl (fun K hK => ?_) AllReadyH.nil))
      · skip
        go_simp
        refine (CW1 _ _ (HV.out.below Bs14)).mono ?_
        rintro e Ws15 ⟨rfl, hbs15⟩
        have x_r_s15 : Box Ws15 (w.heap.size) (mcell Frm.zero) := Box.below x_r_s14 hbs15
        have x_f_s15 : Box Ws15 (w0.heap.size) (F1) := Box.below x_f_s14 hbs15
        have c_k1_s15 := cell_below hbs15 c_k1_s14
        have c_k46_s15 := cell_below hbs15 c_k46_s14
        have c_k47_s15 := cell_below hbs15 c_k47_s14
        have Bs15 := below_thru Bs14 hbs15
        clear x_r_s14 x_f_s14 c_k1_s14 c_k46_s14 c_k47_s14 Bs14 hbs15
        refine hK.out _ _ (And.intro x_r_s15 (And.intro x_f_s15 (And.intro c_k1_s15 (And.intro c_k46_s15 c_k47_s15)))) (fun _ => ?_); clear hK K
        refine wpAnyH_ready (rs := [15, 17]) (by kernel_rfl) (by simp) (AllReadyH.cons rfl (fun K hK => ?_) (AllReadyH.cons rfl (fun K hK => ?_) AllReadyH.nil))
        · skip
          go_simp
          refine (N8 _ _ (S8.out.below Bs15)).mono ?_
          rintro e Ws16 ⟨rfl, hbs16⟩
          have x_r_s16 : Box Ws16 (w.heap.size) (mcell Frm.zero) := Box.below x_r_s15 hbs16
          have x_f_s16 : Box Ws16 (w0.heap.size) (F1) := Box.below x_f_s15 hbs16
          have c_k1_s16 := cell_below hbs16 c_k1_s15
          have c_k46_s16 := cell_below hbs16 c_k46_s15
          have c_k47_s16 := cell_below hbs16 c_k47_s15
          have Bs16 := below_thru Bs15 hbs16
          clear x_r_s15 x_f_s15 c_k1_s15 c_k46_s15 c_k47_s15 Bs15 hbs16
          refine hK.out _ _ (And.intro x_r_s16 (And.intro x_f_s16 (And.intro c_k1_s16 (And.intro c_k46_s16 c_k47_s16)))) (fun _ => ?_); clear hK K
          refine takeH 16 51 (v := .agg UK.toArray) rfl (by rfl) (by kernel_rfl) (by kernel_rfl) (by kernel_rfl) (fun _ _ _ h => h) (yieldsIf_build (by rfl) _ _ rfl (us := #[(0, .int .u8 c.op), (1, .int .u32 c.t), (2, .int .u32 c.u), (4, .int .u8 c.us), (5, .int .u8 c.en), (6, .int .u64 c.x)]) (by rfl) BK) ((And.intro x_r_s16 (And.intro x_f_s16 (And.intro c_k1_s16 (And.intro c_k46_s16 c_k47_s16))))) ?_
          try simp only [Act.put, List.setIfInBounds_toArray, List.set_cons_zero, List.set_cons_succ]
          refine wpAnyH_ready (rs := [17]) (by kernel_rfl) (by simp) (AllReadyH.cons rfl (fun K hK => ?_) AllReadyH.nil)
          go_simp
          have la17 := (x_r_s16).lt; have lb17 := (x_f_s16).lt; have lc17 := lt_of_cell c_k1_s16
          refine hK.out _ _ (And.intro (Box.alloc x_r_s16 _) (And.intro (Box.alloc x_f_s16 _) (And.intro (cell_alloc c_k1_s16) (And.intro (cell_alloc c_k46_s16) (cell_alloc c_k47_s16))))) (fun _ => ?_); clear hK K
          refine F_gen (F := fun W => wpAnyH _ _ _ _ _ _ _ _ W) (J := fun W => Box W (Ws16.heap.size) (ccell Cmd.zero) ∧ Below Ws16.heap.size Ws16 W) (And.intro (Box.newc rfl rfl) ((Below.refl _ _).alloc (Nat.le_refl _) _)) ?_
          intro Ws17 ⟨na_c_s17, hbs17⟩
          have x_r_s17 : Box Ws17 (w.heap.size) (mcell Frm.zero) := Box.below x_r_s16 hbs17
          have x_f_s17 : Box Ws17 (w0.heap.size) (F1) := Box.below x_f_s16 hbs17
          have c_k1_s17 := cell_below hbs17 c_k1_s16
          have c_k46_s17 := cell_below hbs17 c_k46_s16
          have c_k47_s17 := cell_below hbs17 c_k47_s16
          have Bs17 := below_thru Bs16 hbs17
          clear x_r_s16 x_f_s16 c_k1_s16 c_k46_s16 c_k47_s16 Bs16 hbs17
          refine wpAnyH_ready (rs := [18]) (by kernel_rfl) (by simp) (AllReadyH.cons rfl (fun K hK => ?_) AllReadyH.nil)
          have nz_r := (x_r_s17).lt
          have nz_f := (x_f_s17).lt
          refine step_store_box0 (cs := UK) rfl rfl _ _ _ rfl na_c_s17 rfl rfl S0.out L0.out O0.out ?_
          intro Ws18 hWs18
          have x_r_s18 : Box Ws18 (w.heap.size) (mcell Frm.zero) := hWs18.past _ _ (by omega) x_r_s17
          have x_f_s18 : Box Ws18 (w0.heap.size) (F1) := hWs18.past _ _ (by omega) x_f_s17
          have c_k1_s18 := hWs18.cell _ _ _ (by omega) c_k1_s17
          have c_k46_s18 := hWs18.cell _ _ _ (by omega) c_k46_s17
          have c_k47_s18 := hWs18.cell _ _ _ (by omega) c_k47_s17
          have z_c_s18 := hWs18.box
          have Bs18 := hWs18.below _ _ (by omega) Bs17
          clear nz_r nz_f x_r_s17 x_f_s17 c_k1_s17 c_k46_s17 c_k47_s17 na_c_s17 Bs17 hWs18
          refine hK.out _ _ (And.intro x_r_s18 (And.intro x_f_s18 (And.intro c_k1_s18 (And.intro c_k46_s18 c_k47_s18)))) (fun _ => ?_); clear hK K
          refine wpAnyH_done (by kernel_rfl) ?_ _
          go_wp2_with fail
          go_meet
          exact ⟨_, rfl, la17, lb17, z_c_s18, x_r_s18, x_f_s18, Bs18⟩
        · skip
          go_simp
          have la19 := (x_r_s15).lt; have lb19 := (x_f_s15).lt; have lc19 := lt_of_cell c_k1_s15
          refine hK.out _ _ (And.intro (Box.alloc x_r_s15 _) (And.intro (Box.alloc x_f_s15 _) (And.intro (cell_alloc c_k1_s15) (And.intro (cell_alloc c_k46_s15) (cell_alloc c_k47_s15))))) (fun _ => ?_); clear hK K
          refine F_gen (F := fun W => wpAnyH _ _ _ _ _ _ _ _ W) (J := fun W => Box W (Ws15.heap.size) (ccell Cmd.zero) ∧ Below Ws15.heap.size Ws15 W) (And.intro (Box.newc rfl rfl) ((Below.refl _ _).alloc (Nat.le_refl _) _)) ?_
          intro Ws19 ⟨na_c_s19, hbs19⟩
          have x_r_s19 : Box Ws19 (w.heap.size) (mcell Frm.zero) := Box.below x_r_s15 hbs19
          have x_f_s19 : Box Ws19 (w0.heap.size) (F1) := Box.below x_f_s15 hbs19
          have c_k1_s19 := cell_below hbs19 c_k1_s15
          have c_k46_s19 := cell_below hbs19 c_k46_s15
          have c_k47_s19 := cell_below hbs19 c_k47_s15
          have Bs19 := below_thru Bs15 hbs19
          clear x_r_s15 x_f_s15 c_k1_s15 c_k46_s15 c_k47_s15 Bs15 hbs19
          refine wpAnyH_ready (rs := [15]) (by kernel_rfl) (by simp) (AllReadyH.cons rfl (fun K hK => ?_) AllReadyH.nil)
          go_simp
          refine (N8 _ _ (S8.out.below Bs19)).mono ?_
          rintro e Ws20 ⟨rfl, hbs20⟩
          have x_r_s20 : Box Ws20 (w.heap.size) (mcell Frm.zero) := Box.below x_r_s19 hbs20
          have x_f_s20 : Box Ws20 (w0.heap.size) (F1) := Box.below x_f_s19 hbs20
          have c_k1_s20 := cell_below hbs20 c_k1_s19
          have c_k46_s20 := cell_below hbs20 c_k46_s19
          have c_k47_s20 := cell_below hbs20 c_k47_s19
          have z_c_s20 : Box Ws20 (Ws15.heap.size) (ccell Cmd.zero) := Box.below na_c_s19 hbs20
          have Bs20 := below_thru Bs19 hbs20
          clear x_r_s19 x_f_s19 c_k1_s19 c_k46_s19 c_k47_s19 na_c_s19 Bs19 hbs20
          refine hK.out _ _ (And.intro x_r_s20 (And.intro x_f_s20 (And.intro c_k1_s20 (And.intro c_k46_s20 c_k47_s20)))) (fun _ => ?_); clear hK K
          refine takeH 16 51 (v := .agg UK.toArray) rfl (by rfl) (by kernel_rfl) (by kernel_rfl) (by kernel_rfl) (fun _ _ _ h => h) (yieldsIf_build (by rfl) _ _ rfl (us := #[(0, .int .u8 c.op), (1, .int .u32 c.t), (2, .int .u32 c.u), (4, .int .u8 c.us), (5, .int .u8 c.en), (6, .int .u64 c.x)]) (by rfl) BK) ((And.intro x_r_s20 (And.intro x_f_s20 (And.intro c_k1_s20 (And.intro c_k46_s20 c_k47_s20))))) ?_
          try simp only [Act.put, List.setIfInBounds_toArray, List.set_cons_zero, List.set_cons_succ]
          refine wpAnyH_ready (rs := [18]) (by kernel_rfl) (by simp) (AllReadyH.cons rfl (fun K hK => ?_) AllReadyH.nil)
          have nz_r := (x_r_s20).lt
          have nz_f := (x_f_s20).lt
          refine step_store_box0 (cs := UK) rfl rfl _ _ _ rfl z_c_s20 rfl rfl S0.out L0.out O0.out ?_
          intro Ws21 hWs21
          have x_r_s21 : Box Ws21 (w.heap.size) (mcell Frm.zero) := hWs21.past _ _ (by omega) x_r_s20
          have x_f_s21 : Box Ws21 (w0.heap.size) (F1) := hWs21.past _ _ (by omega) x_f_s20
          have c_k1_s21 := hWs21.cell _ _ _ (by omega) c_k1_s20
          have c_k46_s21 := hWs21.cell _ _ _ (by omega) c_k46_s20
          have c_k47_s21 := hWs21.cell _ _ _ (by omega) c_k47_s20
          have z_c_s21 := hWs21.box
          have Bs21 := hWs21.below _ _ (by omega) Bs20
          clear nz_r nz_f x_r_s20 x_f_s20 c_k1_s20 c_k46_s20 c_k47_s20 z_c_s20 Bs20 hWs21
          refine hK.out _ _ (And.intro x_r_s21 (And.intro x_f_s21 (And.intro c_k1_s21 (And.intro c_k46_s21 c_k47_s21)))) (fun _ => ?_); clear hK K
          refine wpAnyH_done (by kernel_rfl) ?_ _
          go_wp2_with fail
          go_meet
          exact ⟨_, rfl, la19, lb19, z_c_s21, x_r_s21, x_f_s21, Bs21⟩
      · skip
        go_simp
        have la22 := (x_r_s14).lt; have lb22 := (x_f_s14).lt; have lc22 := lt_of_cell c_k1_s14
        refine hK.out _ _ (And.intro (Box.alloc x_r_s14 _) (And.intro (Box.alloc x_f_s14 _) (And.intro (cell_alloc c_k1_s14) (And.intro (cell_alloc c_k46_s14) (cell_alloc c_k47_s14))))) (fun _ => ?_); clear hK K
        refine F_gen (F := fun W => wpAnyH _ _ _ _ _ _ _ _ W) (J := fun W => Box W (Ws14.heap.size) (ccell Cmd.zero) ∧ Below Ws14.heap.size Ws14 W) (And.intro (Box.newc rfl rfl) ((Below.refl _ _).alloc (Nat.le_refl _) _)) ?_
        intro Ws22 ⟨na_c_s22, hbs22⟩
        have x_r_s22 : Box Ws22 (w.heap.size) (mcell Frm.zero) := Box.below x_r_s14 hbs22
        have x_f_s22 : Box Ws22 (w0.heap.size) (F1) := Box.below x_f_s14 hbs22
        have c_k1_s22 := cell_below hbs22 c_k1_s14
        have c_k46_s22 := cell_below hbs22 c_k46_s14
        have c_k47_s22 := cell_below hbs22 c_k47_s14
        have Bs22 := below_thru Bs14 hbs22
        clear x_r_s14 x_f_s14 c_k1_s14 c_k46_s14 c_k47_s14 Bs14 hbs22
        refine wpAnyH_ready (rs := [6]) (by kernel_rfl) (by simp) (AllReadyH.cons rfl (fun K hK => ?_) AllReadyH.nil)
        go_simp
        refine (CW1 _ _ (HV.out.below Bs22)).mono ?_
        rintro e Ws23 ⟨rfl, hbs23⟩
        have x_r_s23 : Box Ws23 (w.heap.size) (mcell Frm.zero) := Box.below x_r_s22 hbs23
        have x_f_s23 : Box Ws23 (w0.heap.size) (F1) := Box.below x_f_s22 hbs23
        have c_k1_s23 := cell_below hbs23 c_k1_s22
        have c_k46_s23 := cell_below hbs23 c_k46_s22
        have c_k47_s23 := cell_below hbs23 c_k47_s22
        have z_c_s23 : Box Ws23 (Ws14.heap.size) (ccell Cmd.zero) := Box.below na_c_s22 hbs23
        have Bs23 := below_thru Bs22 hbs23
        clear x_r_s22 x_f_s22 c_k1_s22 c_k46_s22 c_k47_s22 na_c_s22 Bs22 hbs23
        refine hK.out _ _ (And.intro x_r_s23 (And.intro x_f_s23 (And.intro c_k1_s23 (And.intro c_k46_s23 c_k47_s23)))) (fun _ => ?_); clear hK K
        refine wpAnyH_ready (rs := [15]) (by kernel_rfl) (by simp) (AllReadyH.cons rfl (fun K hK => ?_) AllReadyH.nil)
        go_simp
        refine (N8 _ _ (S8.out.below Bs23)).mono ?_
        rintro e Ws24 ⟨rfl, hbs24⟩
        have x_r_s24 : Box Ws24 (w.heap.size) (mcell Frm.zero) := Box.below x_r_s23 hbs24
        have x_f_s24 : Box Ws24 (w0.heap.size) (F1) := Box.below x_f_s23 hbs24
        have c_k1_s24 := cell_below hbs24 c_k1_s23
        have c_k46_s24 := cell_below hbs24 c_k46_s23
        have c_k47_s24 := cell_below hbs24 c_k47_s23
        have z_c_s24 : Box Ws24 (Ws14.heap.size) (ccell Cmd.zero) := Box.below z_c_s23 hbs24
        have Bs24 := below_thru Bs23 hbs24
        clear x_r_s23 x_f_s23 c_k1_s23 c_k46_s23 c_k47_s23 z_c_s23 Bs23 hbs24
        refine hK.out _ _ (And.intro x_r_s24 (And.intro x_f_s24 (And.intro c_k1_s24 (And.intro c_k46_s24 c_k47_s24)))) (fun _ => ?_); clear hK K
        refine takeH 16 51 (v := .agg UK.toArray) rfl (by rfl) (by kernel_rfl) (by kernel_rfl) (by kernel_rfl) (fun _ _ _ h => h) (yieldsIf_build (by rfl) _ _ rfl (us := #[(0, .int .u8 c.op), (1, .int .u32 c.t), (2, .int .u32 c.u), (4, .int .u8 c.us), (5, .int .u8 c.en), (6, .int .u64 c.x)]) (by rfl) BK) ((And.intro x_r_s24 (And.intro x_f_s24 (And.intro c_k1_s24 (And.intro c_k46_s24 c_k47_s24))))) ?_
        try simp only [Act.put, List.setIfInBounds_toArray, List.set_cons_zero, List.set_cons_succ]
        refine wpAnyH_ready (rs := [18]) (by kernel_rfl) (by simp) (AllReadyH.cons rfl (fun K hK => ?_) AllReadyH.nil)
        have nz_r := (x_r_s24).lt
        have nz_f := (x_f_s24).lt
        refine step_store_box0 (cs := UK) rfl rfl _ _ _ rfl z_c_s24 rfl rfl S0.out L0.out O0.out ?_
        intro Ws25 hWs25
        have x_r_s25 : Box Ws25 (w.heap.size) (mcell Frm.zero) := hWs25.past _ _ (by omega) x_r_s24
        have x_f_s25 : Box Ws25 (w0.heap.size) (F1) := hWs25.past _ _ (by omega) x_f_s24
        have c_k1_s25 := hWs25.cell _ _ _ (by omega) c_k1_s24
        have c_k46_s25 := hWs25.cell _ _ _ (by omega) c_k46_s24
        have c_k47_s25 := hWs25.cell _ _ _ (by omega) c_k47_s24
        have z_c_s25 := hWs25.box
        have Bs25 := hWs25.below _ _ (by omega) Bs24
        clear nz_r nz_f x_r_s24 x_f_s24 c_k1_s24 c_k46_s24 c_k47_s24 z_c_s24 Bs24 hWs25
        refine hK.out _ _ (And.intro x_r_s25 (And.intro x_f_s25 (And.intro c_k1_s25 (And.intro c_k46_s25 c_k47_s25)))) (fun _ => ?_); clear hK K
        refine wpAnyH_done (by kernel_rfl) ?_ _
        go_wp2_with fail
        go_meet
        exact ⟨_, rfl, la22, lb22, z_c_s25, x_r_s25, x_f_s25, Bs25⟩
    · skip
      go_simp
      have la26 := (x_r_s0).lt; have lb26 := (x_f_s0).lt; have lc26 := lt_of_cell c_k1_s0
      refine hK.out _ _ (And.intro (Box.alloc x_r_s0 _) (And.intro (Box.alloc x_f_s0 _) (And.intro (cell_alloc c_k1_s0) (And.intro (cell_alloc c_k46_s0) (cell_alloc c_k47_s0))))) (fun _ => ?_); clear hK K
      refine F_gen (F := fun W => wpAnyH _ _ _ _ _ _ _ _ W) (J := fun W => Box W (Ws0.heap.size) (ccell Cmd.zero) ∧ Below Ws0.heap.size Ws0 W) (And.intro (Box.newc rfl rfl) ((Below.refl _ _).alloc (Nat.le_refl _) _)) ?_
      intro Ws26 ⟨na_c_s26, hbs26⟩
      have x_r_s26 : Box Ws26 (w.heap.size) (mcell Frm.zero) := Box.below x_r_s0 hbs26
      have x_f_s26 : Box Ws26 (w0.heap.size) (F1) := Box.below x_f_s0 hbs26
      have c_k1_s26 := cell_below hbs26 c_k1_s0
      have c_k46_s26 := cell_below hbs26 c_k46_s0
      have c_k47_s26 := cell_below hbs26 c_k47_s0
      have Bs26 := below_thru Bs0 hbs26
      clear x_r_s0 x_f_s0 c_k1_s0 c_k46_s0 c_k47_s0 Bs0 hbs26
      refine wpAnyH_ready (rs := [4]) (by kernel_rfl) (by simp) (AllReadyH.cons rfl (fun K hK => ?_) AllReadyH.nil)
      go_simp
      refine (CW0 _ _ (HV.out.below Bs26)).mono ?_
      rintro e Ws27 ⟨rfl, hbs27⟩
      have x_r_s27 : Box Ws27 (w.heap.size) (mcell Frm.zero) := Box.below x_r_s26 hbs27
      have x_f_s27 : Box Ws27 (w0.heap.size) (F1) := Box.below x_f_s26 hbs27
      have c_k1_s27 := cell_below hbs27 c_k1_s26
      have c_k46_s27 := cell_below hbs27 c_k46_s26
      have c_k47_s27 := cell_below hbs27 c_k47_s26
      have z_c_s27 : Box Ws27 (Ws0.heap.size) (ccell Cmd.zero) := Box.below na_c_s26 hbs27
      have Bs27 := below_thru Bs26 hbs27
      clear x_r_s26 x_f_s26 c_k1_s26 c_k46_s26 c_k47_s26 na_c_s26 Bs26 hbs27
      refine hK.out _ _ (And.intro x_r_s27 (And.intro x_f_s27 (And.intro c_k1_s27 (And.intro c_k46_s27 c_k47_s27)))) (fun _ => ?_); clear hK K
      refine wpAnyH_ready (rs := [6]) (by kernel_rfl) (by simp) (AllReadyH.cons rfl (fun K hK => ?_) AllReadyH.nil)
      go_simp
      refine (CW1 _ _ (HV.out.below Bs27)).mono ?_
      rintro e Ws28 ⟨rfl, hbs28⟩
      have x_r_s28 : Box Ws28 (w.heap.size) (mcell Frm.zero) := Box.below x_r_s27 hbs28
      have x_f_s28 : Box Ws28 (w0.heap.size) (F1) := Box.below x_f_s27 hbs28
      have c_k1_s28 := cell_below hbs28 c_k1_s27
      have c_k46_s28 := cell_below hbs28 c_k46_s27
      have c_k47_s28 := cell_below hbs28 c_k47_s27
      have z_c_s28 : Box Ws28 (Ws0.heap.size) (ccell Cmd.zero) := Box.below z_c_s27 hbs28
      have Bs28 := below_thru Bs27 hbs28
      clear x_r_s27 x_f_s27 c_k1_s27 c_k46_s27 c_k47_s27 z_c_s27 Bs27 hbs28
      refine hK.out _ _ (And.intro x_r_s28 (And.intro x_f_s28 (And.intro c_k1_s28 (And.intro c_k46_s28 c_k47_s28)))) (fun _ => ?_); clear hK K
      refine wpAnyH_ready (rs := [15]) (by kernel_rfl) (by simp) (AllReadyH.cons rfl (fun K hK => ?_) AllReadyH.nil)
      go_simp
      refine (N8 _ _ (S8.out.below Bs28)).mono ?_
      rintro e Ws29 ⟨rfl, hbs29⟩
      have x_r_s29 : Box Ws29 (w.heap.size) (mcell Frm.zero) := Box.below x_r_s28 hbs29
      have x_f_s29 : Box Ws29 (w0.heap.size) (F1) := Box.below x_f_s28 hbs29
      have c_k1_s29 := cell_below hbs29 c_k1_s28
      have c_k46_s29 := cell_below hbs29 c_k46_s28
      have c_k47_s29 := cell_below hbs29 c_k47_s28
      have z_c_s29 : Box Ws29 (Ws0.heap.size) (ccell Cmd.zero) := Box.below z_c_s28 hbs29
      have Bs29 := below_thru Bs28 hbs29
      clear x_r_s28 x_f_s28 c_k1_s28 c_k46_s28 c_k47_s28 z_c_s28 Bs28 hbs29
      refine hK.out _ _ (And.intro x_r_s29 (And.intro x_f_s29 (And.intro c_k1_s29 (And.intro c_k46_s29 c_k47_s29)))) (fun _ => ?_); clear hK K
      refine takeH 16 51 (v := .agg UK.toArray) rfl (by rfl) (by kernel_rfl) (by kernel_rfl) (by kernel_rfl) (fun _ _ _ h => h) (yieldsIf_build (by rfl) _ _ rfl (us := #[(0, .int .u8 c.op), (1, .int .u32 c.t), (2, .int .u32 c.u), (4, .int .u8 c.us), (5, .int .u8 c.en), (6, .int .u64 c.x)]) (by rfl) BK) ((And.intro x_r_s29 (And.intro x_f_s29 (And.intro c_k1_s29 (And.intro c_k46_s29 c_k47_s29))))) ?_
      try simp only [Act.put, List.setIfInBounds_toArray, List.set_cons_zero, List.set_cons_succ]
      refine wpAnyH_ready (rs := [18]) (by kernel_rfl) (by simp) (AllReadyH.cons rfl (fun K hK => ?_) AllReadyH.nil)
      have nz_r := (x_r_s29).lt
      have nz_f := (x_f_s29).lt
      refine step_store_box0 (cs := UK) rfl rfl _ _ _ rfl z_c_s29 rfl rfl S0.out L0.out O0.out ?_
      intro Ws30 hWs30
      have x_r_s30 : Box Ws30 (w.heap.size) (mcell Frm.zero) := hWs30.past _ _ (by omega) x_r_s29
      have x_f_s30 : Box Ws30 (w0.heap.size) (F1) := hWs30.past _ _ (by omega) x_f_s29
      have c_k1_s30 := hWs30.cell _ _ _ (by omega) c_k1_s29
      have c_k46_s30 := hWs30.cell _ _ _ (by omega) c_k46_s29
      have c_k47_s30 := hWs30.cell _ _ _ (by omega) c_k47_s29
      have z_c_s30 := hWs30.box
      have Bs30 := hWs30.below _ _ (by omega) Bs29
      clear nz_r nz_f x_r_s29 x_f_s29 c_k1_s29 c_k46_s29 c_k47_s29 z_c_s29 Bs29 hWs30
      refine hK.out _ _ (And.intro x_r_s30 (And.intro x_f_s30 (And.intro c_k1_s30 (And.intro c_k46_s30 c_k47_s30)))) (fun _ => ?_); clear hK K
      refine wpAnyH_done (by kernel_rfl) ?_ _
      go_wp2_with fail
      go_meet
      exact ⟨_, rfl, la26, lb26, z_c_s30, x_r_s30, x_f_s30, Bs30⟩
  case rest =>
    obtain ⟨b7, rfl, lo4, lo5, x_c3, x_r3, x_f3, hB3⟩ := hcut
    obtain ⟨w8, rfl⟩ : ∃ u : World, u = wc := ⟨_, rfl⟩
    clear x_r2 x_f2 hB2 hs2 cb1 cb46 cb47
    have hs3 := hB3.size
    go_wp2_with fail
    refine wp_loop_rounds 5 ?_
    rw [rounds_succ]
    go_wp2_with fail
    refine (CW2 _ _ (HV.out.below hB3)).mono ?_
    rintro e w4 ⟨rfl, hb⟩
    have hB4 : Below w.heap.size w w4 := below_thru hB3 hb
    have hs4 := hB4.size
    have x_r4 : Box w4 (w.heap.size) (mcell Frm.zero) := Box.below x_r3 hb
    have x_f4 : Box w4 (w0.heap.size) (F1) := Box.below x_f3 hb
    have x_c4 : Box w4 (b7) (UK) := Box.below x_c3 hb
    clear hB3 hs3 x_r3 x_f3 x_c3
    clear hb
    go_wp2_with fail
    refine (CW3 _ _ (HV.out.below hB4)).mono ?_
    rintro e w5 ⟨rfl, hb⟩
    have hB5 : Below w.heap.size w w5 := below_thru hB4 hb
    have hs5 := hB5.size
    have x_r5 : Box w5 (w.heap.size) (mcell Frm.zero) := Box.below x_r4 hb
    have x_f5 : Box w5 (w0.heap.size) (F1) := Box.below x_f4 hb
    have x_c5 : Box w5 (b7) (UK) := Box.below x_c4 hb
    clear hB4 hs4 x_r4 x_f4 x_c4
    clear hb
    go_wp2_with fail
    refine (CW4 _ _ (HV.out.below hB5)).mono ?_
    rintro e w6 ⟨rfl, hb⟩
    have hB6 : Below w.heap.size w w6 := below_thru hB5 hb
    have hs6 := hB6.size
    have x_r6 : Box w6 (w.heap.size) (mcell Frm.zero) := Box.below x_r5 hb
    have x_f6 : Box w6 (w0.heap.size) (F1) := Box.below x_f5 hb
    have x_c6 : Box w6 (b7) (UK) := Box.below x_c5 hb
    clear hB5 hs5 x_r5 x_f5 x_c5
    clear hb
    go_wp2_with (first | (refine wpList_build9 rfl 24 _ rfl (us := #[(0, .int .i64 c.l0.b), (1, .int .i64 c.l0.r), (2, .int .i64 c.l0.p)]) (by rfl) (BL0 _) ?_) | (refine wpList_store_part (k := 3) (cs := K0) (ws := U1) rfl _ _ _ rfl x_c6 rfl rfl SM0.out (by rw [NM0.out, N0.out]; decide) W1.out OM0.out ?_; intro W9_0 hW))
    have x_r7 : Box W9_0 (w.heap.size) (mcell Frm.zero) := hW.past _ _ (by omega) x_r6
    have x_f7 : Box W9_0 (w0.heap.size) (F1) := hW.past _ _ (by omega) x_f6
    have x_c7 := hW.box
    have hB7 := hW.below _ _ (by omega) hB6; have hs7 := hB7.size
    clear hW x_r6 x_f6 x_c6 hB6 hs6
    rw [rounds_succ]
    go_wp2_with fail
    refine (CW5 _ _ (HV.out.below hB7)).mono ?_
    rintro e w8 ⟨rfl, hb⟩
    have hB8 : Below w.heap.size w w8 := below_thru hB7 hb
    have hs8 := hB8.size
    have x_r8 : Box w8 (w.heap.size) (mcell Frm.zero) := Box.below x_r7 hb
    have x_f8 : Box w8 (w0.heap.size) (F1) := Box.below x_f7 hb
    have x_c8 : Box w8 (b7) (U1) := Box.below x_c7 hb
    clear hB7 hs7 x_r7 x_f7 x_c7
    clear hb
    go_wp2_with fail
    refine (CW6 _ _ (HV.out.below hB8)).mono ?_
    rintro e w9 ⟨rfl, hb⟩
    have hB9 : Below w.heap.size w w9 := below_thru hB8 hb
    have hs9 := hB9.size
    have x_r9 : Box w9 (w.heap.size) (mcell Frm.zero) := Box.below x_r8 hb
    have x_f9 : Box w9 (w0.heap.size) (F1) := Box.below x_f8 hb
    have x_c9 : Box w9 (b7) (U1) := Box.below x_c8 hb
    clear hB8 hs8 x_r8 x_f8 x_c8
    clear hb
    go_wp2_with fail
    refine (CW7 _ _ (HV.out.below hB9)).mono ?_
    rintro e w10 ⟨rfl, hb⟩
    have hB10 : Below w.heap.size w w10 := below_thru hB9 hb
    have hs10 := hB10.size
    have x_r10 : Box w10 (w.heap.size) (mcell Frm.zero) := Box.below x_r9 hb
    have x_f10 : Box w10 (w0.heap.size) (F1) := Box.below x_f9 hb
    have x_c10 : Box w10 (b7) (U1) := Box.below x_c9 hb
    clear hB9 hs9 x_r9 x_f9 x_c9
    clear hb
    go_wp2_with (first | (refine wpList_build9 rfl 24 _ rfl (us := #[(0, .int .i64 c.l1.b), (1, .int .i64 c.l1.r), (2, .int .i64 c.l1.p)]) (by rfl) (BL1 _) ?_) | (refine wpList_store_part (k := 6) (cs := K1) (ws := U2) rfl _ _ _ rfl x_c10 rfl rfl SM1.out (by rw [NM1.out, N1.out]; decide) W2.out OM1.out ?_; intro W9_1 hW))
    have x_r11 : Box W9_1 (w.heap.size) (mcell Frm.zero) := hW.past _ _ (by omega) x_r10
    have x_f11 : Box W9_1 (w0.heap.size) (F1) := hW.past _ _ (by omega) x_f10
    have x_c11 := hW.box
    have hB11 := hW.below _ _ (by omega) hB10; have hs11 := hB11.size
    clear hW x_r10 x_f10 x_c10 hB10 hs10
    rw [rounds_succ]
    go_wp2_with fail
    refine (CW8 _ _ (HV.out.below hB11)).mono ?_
    rintro e w12 ⟨rfl, hb⟩
    have hB12 : Below w.heap.size w w12 := below_thru hB11 hb
    have hs12 := hB12.size
    have x_r12 : Box w12 (w.heap.size) (mcell Frm.zero) := Box.below x_r11 hb
    have x_f12 : Box w12 (w0.heap.size) (F1) := Box.below x_f11 hb
    have x_c12 : Box w12 (b7) (U2) := Box.below x_c11 hb
    clear hB11 hs11 x_r11 x_f11 x_c11
    clear hb
    go_wp2_with fail
    refine (CW9 _ _ (HV.out.below hB12)).mono ?_
    rintro e w13 ⟨rfl, hb⟩
    have hB13 : Below w.heap.size w w13 := below_thru hB12 hb
    have hs13 := hB13.size
    have x_r13 : Box w13 (w.heap.size) (mcell Frm.zero) := Box.below x_r12 hb
    have x_f13 : Box w13 (w0.heap.size) (F1) := Box.below x_f12 hb
    have x_c13 : Box w13 (b7) (U2) := Box.below x_c12 hb
    clear hB12 hs12 x_r12 x_f12 x_c12
    clear hb
    go_wp2_with fail
    refine (CW10 _ _ (HV.out.below hB13)).mono ?_
    rintro e w14 ⟨rfl, hb⟩
    have hB14 : Below w.heap.size w w14 := below_thru hB13 hb
    have hs14 := hB14.size
    have x_r14 : Box w14 (w.heap.size) (mcell Frm.zero) := Box.below x_r13 hb
    have x_f14 : Box w14 (w0.heap.size) (F1) := Box.below x_f13 hb
    have x_c14 : Box w14 (b7) (U2) := Box.below x_c13 hb
    clear hB13 hs13 x_r13 x_f13 x_c13
    clear hb
    go_wp2_with (first | (refine wpList_build9 rfl 24 _ rfl (us := #[(0, .int .i64 c.l2.b), (1, .int .i64 c.l2.r), (2, .int .i64 c.l2.p)]) (by rfl) (BL2 _) ?_) | (refine wpList_store_part (k := 9) (cs := K2) (ws := U3) rfl _ _ _ rfl x_c14 rfl rfl SM2.out (by rw [NM2.out, N2.out]; decide) W3.out OM2.out ?_; intro W9_2 hW))
    have x_r15 : Box W9_2 (w.heap.size) (mcell Frm.zero) := hW.past _ _ (by omega) x_r14
    have x_f15 : Box W9_2 (w0.heap.size) (F1) := hW.past _ _ (by omega) x_f14
    have x_c15 := hW.box
    have hB15 := hW.below _ _ (by omega) hB14; have hs15 := hB15.size
    clear hW x_r14 x_f14 x_c14 hB14 hs14
    rw [rounds_succ]
    go_wp2_with fail
    go_loopw [9] (fun s9 wr => ∃ i : Nat, s9 = .int .i64 i ∧ i ≤ 32 ∧ Box wr b7 (ccg c (gS c.g i)) ∧ Box wr w.heap.size (mcell Frm.zero) ∧ Box wr (w0.heap.size) F1 ∧ Below w.heap.size w wr) (fun s9 _ => 32 - (intOf s9).toNat)
    case atStart => exact ⟨0, rfl, by omega, by rw [G0.out, ← W4.out]; exact x_c15, x_r15, x_f15, hB15⟩
    case round =>
      clear x_c15 x_r15 x_f15 hB15 hs15
      obtain ⟨i, rfl, hi, hT, hR, hF, hB⟩ := hrel
      have z1 := hT.lt; have z2 := hR.lt; have z3 := hF.lt
      by_cases hlt : i < 32
      · obtain ⟨b5, o5, e5, hc⟩ := HV.out.get (56 + i) (by have := HL.out; omega)
        cases e5
        rw [HN.out] at hc
        have hc := cell_below hB hc
        have zc := lt_of_cell hc
        have S := Lib.hid (GS.out i hlt)
        obtain ⟨u, hu⟩ : ∃ u, (ccg c (gS c.g i))[15 + i]? = some u := ⟨_, List.getElem?_eq_getElem (by have := GL.out i hi; omega)⟩
        have cs := hT.c (15 + i) _ hu
        have cf := hT.f (15 + i) _ hu
        obtain ⟨y, hy⟩ : ∃ y, nth c.g i = y := ⟨_, rfl⟩
        rw [hy] at hc S
        have i3 : (i : Int) < 32 := by omega
        have i4 : (0 : Int) ≤ (i : Int) := by omega
        have i5 : (56 : Int) + (i : Int) < 88 := by omega
        clear hy hu
        go_wp2_with fail
        go_roundw
        case rel =>
          refine ⟨i + 1, by go_num, by omega, ?_, hR.other (by show b7 ≠ w.heap.size; omega) _, hF.other (by show b7 ≠ w0.heap.size; omega) _, hB.setCell (show w.heap.size ≤ b7 by omega) _⟩
          rw [← S.out]
          exact hT.set (15 + i) _
        case measure => simp [intOf]; omega
      · skip
        obtain rfl : i = 32 := by omega
        rw [GA.out] at hT
        clear hlt hi
        have x_c16 := hT; have x_r16 := hR; have x_f16 := hF; have hB16 := hB; have hs16 := hB.size; clear hT hR hF hB
        go_upto_region 20 with (first | (refine wpList_load_box9 rfl _ _ rfl x_c16 rfl Try.underlying31 rfl SCM.out ?_) | (refine wpList_store_part (k := 39) (cs := CC) (ws := V) rfl _ _ _ rfl x_f16 rfl rfl SCM.out (by rw [NCM.out, M1.out]; decide) X2.out OCM.out ?_; intro W10 hW))
        have x_f17 := hW.box; have x_r17 : Box W10 (w.heap.size) (mcell Frm.zero) := hW.past _ _ (by omega) x_r16; have hB17 := hW.below _ _ (by omega) hB16; have hs17 := hB17.size
        clear hW z1 z2 z3 x_c16 x_r16 x_f16 hB16 hs16
        have BZ := fun W => build_m0 W
        have SZ2 := Lib.hid (size_frm Frm.zero)
        rcases hcase.out with ⟨hok, hbs, rfl, rfl⟩ | ⟨hok, hbs, rfl, rfl⟩ | ⟨hok, rfl, rfl⟩
        · skip
          have CK := fun W => rchk_is FR (q := 0) (Lib.hid (Or.inl ⟨rfl, hok⟩)) W
          have RB := fun W => rby_is FR (Frm.ok_kw hok) W
          have SV := Lib.hid (size_frm FR); have OV := Lib.hid (one_frm FR); have LV := Lib.hid (len_frm Frm.zero FR)
          rw [HVV.out] at CK RB SV OV LV
          have HBS := Lib.hid hbs
          clear hbs hok
          rw [HBS.out] at RB
          go_wp2_with (refine wpList_load_box9 rfl _ _ rfl x_f17 rfl Try.underlying43 rfl SVF.out ?_)
          refine (CK _).mono ?_
          rintro e w18 ⟨rfl, hb⟩
          clear CK
          have hB18 : Below w.heap.size w w18 := below_thru hB17 hb
          have hs18 := hB18.size
          have x_r18 : Box w18 (w.heap.size) (mcell Frm.zero) := Box.below x_r17 hb
          have x_f18 : Box w18 (w0.heap.size) (V) := Box.below x_f17 hb
          clear hB17 hs17 x_r17 x_f17
          clear hb
          go_wp2_with (refine wpList_load_box9 rfl _ _ rfl x_f18 rfl Try.underlying43 rfl SV.out ?_)
          refine (RB _).mono ?_
          rintro e w68 ⟨vo, rfl, hob, hb⟩
          have hB19 : Below w.heap.size w w68 := below_thru hB18 hb
          have hs19 := hB19.size
          have x_r19 : Box w68 (w.heap.size) (mcell Frm.zero) := Box.below x_r18 hb
          have x_f19 : Box w68 (w0.heap.size) (V) := Box.below x_f18 hb
          clear hB18 hs18 x_r18 x_f18
          clear hb
          have JO := IsL.own hob rfl
          clear hob
          go_wp2_with fail
          refine (sameb_tt _ JO (HV.out.below hB19)).mono ?_
          rintro e w79 ⟨rfl, hb⟩
          clear JO
          have hB20 : Below w.heap.size w w79 := below_thru hB19 hb
          have hs20 := hB20.size
          have x_r20 : Box w79 (w.heap.size) (mcell Frm.zero) := Box.below x_r19 hb
          have x_f20 : Box w79 (w0.heap.size) (V) := Box.below x_f19 hb
          clear hB19 hs19 x_r19 x_f19
          clear hb
          go_wp2_with (first | (refine wpList_load_box9 rfl _ _ rfl x_f20 rfl Try.underlying43 rfl SV.out ?_) | (refine wpList_store_box (cs := V) rfl _ _ _ rfl x_r20 rfl rfl SV.out LV.out OV.out ?_; intro W99 hW99))
          exact bodyPost_ret (results_box2 Try.results23 hW99.box rfl rfl Try.underlying43 rfl SV.out) rfl ⟨by rw [HVV.out]; rfl, hW99.below _ _ (by omega) hB20⟩
        · skip
          have CK := fun W => rchk_is FR (q := 0) (Lib.hid (Or.inl ⟨rfl, hok⟩)) W
          have RB := fun W => rby_is FR (Frm.ok_kw hok) W
          have SV := Lib.hid (size_frm FR); have OV := Lib.hid (one_frm FR); have LV := Lib.hid (len_frm Frm.zero FR)
          rw [HVV.out] at CK RB SV OV LV
          obtain ⟨X, hX⟩ : ∃ X, FR.bs = X := ⟨_, rfl⟩
          rw [hX] at RB hbs
          have HBS := Lib.hid hbs
          clear hbs hok hX
          go_wp2_with (refine wpList_load_box9 rfl _ _ rfl x_f17 rfl Try.underlying43 rfl SVF.out ?_)
          refine (CK _).mono ?_
          rintro e w18 ⟨rfl, hb⟩
          clear CK
          have hB18 : Below w.heap.size w w18 := below_thru hB17 hb
          have hs18 := hB18.size
          have x_r18 : Box w18 (w.heap.size) (mcell Frm.zero) := Box.below x_r17 hb
          have x_f18 : Box w18 (w0.heap.size) (V) := Box.below x_f17 hb
          clear hB17 hs17 x_r17 x_f17
          clear hb
          go_wp2_with (refine wpList_load_box9 rfl _ _ rfl x_f18 rfl Try.underlying43 rfl SV.out ?_)
          refine (RB _).mono ?_
          rintro e w68 ⟨vo, rfl, hob, hb⟩
          have hB19 : Below w.heap.size w w68 := below_thru hB18 hb
          have hs19 := hB19.size
          have x_r19 : Box w68 (w.heap.size) (mcell Frm.zero) := Box.below x_r18 hb
          have x_f19 : Box w68 (w0.heap.size) (V) := Box.below x_f18 hb
          clear hB18 hs18 x_r18 x_f18
          clear hb
          have JO := IsL.own hob rfl
          clear hob
          go_wp2_with fail
          refine (sameb_ff _ JO (HV.out.below hB19) HBS.out).mono ?_
          rintro e w79 ⟨rfl, hb⟩
          clear JO
          have hB20 : Below w.heap.size w w79 := below_thru hB19 hb
          have hs20 := hB20.size
          have x_r20 : Box w79 (w.heap.size) (mcell Frm.zero) := Box.below x_r19 hb
          have x_f20 : Box w79 (w0.heap.size) (V) := Box.below x_f19 hb
          clear hB19 hs19 x_r19 x_f19
          clear hb
          go_wp2_with (first | (refine wpList_build9 rfl 43 _ rfl (us := #[]) (by rfl) (BZ _) ?_) | (refine wpList_store_box (cs := mcell Frm.zero) rfl _ _ _ rfl x_r20 rfl rfl (size_frm Frm.zero) (len_frm Frm.zero Frm.zero) (one_frm Frm.zero) ?_; intro W99 hW99))
          exact bodyPost_ret (results_box2 Try.results23 hW99.box rfl rfl Try.underlying43 rfl SZ2.out) rfl ⟨rfl, hW99.below _ _ (by omega) hB20⟩
        · skip
          have CK := fun W => rchk_is FR (q := 8) (Lib.hid (Or.inr ⟨rfl, hok⟩)) W
          have SV := Lib.hid (size_frm FR)
          rw [HVV.out] at CK SV
          clear hok
          go_wp2_with (refine wpList_load_box9 rfl _ _ rfl x_f17 rfl Try.underlying43 rfl SVF.out ?_)
          refine (CK _).mono ?_
          rintro e w18 ⟨rfl, hb⟩
          clear CK
          have hB18 : Below w.heap.size w w18 := below_thru hB17 hb
          have hs18 := hB18.size
          have x_r18 : Box w18 (w.heap.size) (mcell Frm.zero) := Box.below x_r17 hb
          have x_f18 : Box w18 (w0.heap.size) (V) := Box.below x_f17 hb
          clear hB17 hs17 x_r17 x_f17
          clear hb
          go_wp2_with (first | (refine wpList_build9 rfl 43 _ rfl (us := #[]) (by rfl) (BZ _) ?_) | (refine wpList_store_box (cs := mcell Frm.zero) rfl _ _ _ rfl x_r18 rfl rfl (size_frm Frm.zero) (len_frm Frm.zero Frm.zero) (one_frm Frm.zero) ?_; intro W99 hW99))
          exact bodyPost_ret (results_box2 Try.results23 hW99.box rfl rfl Try.underlying43 rfl SZ2.out) rfl ⟨rfl, hW99.below _ _ (by omega) hB18⟩

theorem rparse_is (bs : List Int) (hb : Byts bs) : ∃ (G : Frm) (q : Int), ParseOf bs G q ∧ Parses 23 bs G q := by
  by_cases h1 : bs.length = 59
  · match bs, h1 with
    | x :: xs, h1 =>
      obtain ⟨r, rfl⟩ := Req.of_bytes (bs := xs) (by simpa using h1) (fun y hy => hb y (by simp [hy]))
      by_cases ht : r.k.t < 16
      · by_cases hx : x = 1
        · subst hx
          exact ⟨_, _, (req_of r).1 ht, fun W v hv => rp_59 r 1 (Or.inl ⟨Frm.req_ok ht, Frm.req_bs r, rfl, rfl⟩) W hv⟩
        · exact ⟨_, _, none_of (Or.inl ⟨h1, hx⟩), fun W v hv => rp_59 r x (Or.inr (Or.inl ⟨Frm.req_ok ht, fun e => hx (by rw [Frm.req_bs] at e; exact (List.cons.inj e).1.symm), rfl, rfl⟩)) W hv⟩
      · by_cases hx : x = 1
        · subst hx
          exact ⟨_, _, (req_of r).2 ht, fun W v hv => rp_59 r 1 (Or.inr (Or.inr ⟨fun h => ht ((Frm.req_iff r).1 h), rfl, rfl⟩)) W hv⟩
        · exact ⟨_, _, none_of (Or.inl ⟨h1, hx⟩), fun W v hv => rp_59 r x (Or.inr (Or.inr ⟨fun h => ht ((Frm.req_iff r).1 h), rfl, rfl⟩)) W hv⟩
  by_cases h2 : bs.length = 88
  · match bs, h2 with
    | x :: xs, h2 =>
      obtain ⟨c, hc, rfl⟩ := Cmd.of_bytes (bs := xs) (by simpa using h2) (fun y hy => hb y (by simp [hy]))
      by_cases ho : c.Ok
      · by_cases hx : x = 2
        · subst hx
          refine ⟨_, _, ?_, fun W v hv => rp_88 c hc 2 (Or.inl ⟨Frm.cmd_ok ho, by rw [Frm.cmd_bs, msg_two], rfl, rfl⟩) W hv⟩
          rw [← msg_two]
          exact (cmd_of c hc).1 ho
        · exact ⟨_, _, none_of (Or.inr (Or.inl ⟨h2, hx⟩)), fun W v hv => rp_88 c hc x (Or.inr (Or.inl ⟨Frm.cmd_ok ho, fun e => hx (by rw [Frm.cmd_bs, msg_two] at e; exact (List.cons.inj e).1.symm), rfl, rfl⟩)) W hv⟩
      · by_cases hx : x = 2
        · subst hx
          refine ⟨_, _, ?_, fun W v hv => rp_88 c hc 2 (Or.inr (Or.inr ⟨fun h => ho ((Frm.cmd_iff c).1 h), rfl, rfl⟩)) W hv⟩
          rw [← msg_two]
          exact (cmd_of c hc).2 ho
        · exact ⟨_, _, none_of (Or.inr (Or.inl ⟨h2, hx⟩)), fun W v hv => rp_88 c hc x (Or.inr (Or.inr ⟨fun h => ho ((Frm.cmd_iff c).1 h), rfl, rfl⟩)) W hv⟩
  exact ⟨_, _, none_of (Or.inr (Or.inr ⟨h1, h2⟩)), fun W v hv => rp_n (by simp; omega) (by simp; omega) W hv⟩

end Go.Proofs.Ytkpdlbcmnfphmaa
