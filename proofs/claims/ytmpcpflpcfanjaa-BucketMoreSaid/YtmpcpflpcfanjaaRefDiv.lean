/-
  The reference of layer 1, walked: the quotient and the rest, digit by digit to the base 2.
-/
import Derived.Test.YtmpcpflpcfanjaaRefOk
namespace Go.Proofs.Ytmpcpflpcfanjaa
open Go.RowKit

theorem rdiv_no {ah al : Int} (w : World) :
    Calls Try.prog 94 #[.agg #[.int .u64 ah, .int .u64 al], .int .u64 0] w fun e w' =>
      e = .returned (.tuple #[.agg #[.int .u64 0, .int .u64 0], .int .u64 0, .int .i64 26]) ∧ Below w.heap.size w w' := by
  go_enter Try.func94, Try.ntmps94
  go_wp2
  go_returns
  refine ⟨rfl, ?_⟩
  go_grown

/-- The number of the first k of 128 digits. -/
def topk (n : Int) (k : Nat) : Int := n / 2 ^ (128 - k)
theorem topk_zero {n : Int} (h : isW n) : topk n 0 = 0 := by
  unfold isW at h
  exact Int.ediv_eq_zero_of_lt h.1 h.2
theorem topk_all (n : Int) : topk n 128 = n := Int.ediv_one n
theorem topk_step (n : Int) (k : Nat) (hk : k < 128) : topk n (k + 1) = 2 * topk n k + n / 2 ^ (127 - k) % 2 := by
  unfold topk
  have e1 : 128 - (k + 1) = 127 - k := by omega
  have e2 : 128 - k = 127 - k + 1 := by omega
  have e3 : n / 2 ^ (128 - k) = n / 2 ^ (127 - k) / 2 := by
    rw [e2, Int.pow_succ, Int.ediv_ediv_of_nonneg (Int.le_of_lt (Int.pow_pos (by omega)))]
  rw [e1, e3]
  omega
theorem topk_bd {n : Int} (h : isW n) (k : Nat) : 0 ≤ topk n k ∧ topk n k ≤ n := by
  unfold isW at h
  exact ⟨Int.ediv_nonneg h.1 (Int.le_of_lt (Int.pow_pos (by omega))), Int.ediv_le_self _ h.1⟩
theorem topk_half {n : Int} (h : isW n) (k : Nat) (hk : k < 128) : topk n k < 170141183460469231731687303715884105728 := by
  have h1 := topk_step n k hk
  have h2 := topk_bd h (k + 1)
  have h3 := topk_bd h k
  unfold isW at h
  omega
theorem digit_high {h l : Int} (hl : isU l) (k : Nat) (hk : k ≤ 63) : wN h l / 2 ^ (127 - k) % 2 = h / 2 ^ (63 - k) % 2 := by
  unfold isU at hl
  have e : wN h l / 2 ^ (127 - k) = h / 2 ^ (63 - k) := by
    rw [show 127 - k = 64 + (63 - k) by omega, Int.pow_add, ← Int.ediv_ediv_of_nonneg (by omega)]
    congr 1
    rw [show (2 : Int) ^ 64 = 18446744073709551616 from rfl]
    unfold wN
    omega
  rw [e]
theorem digit_low {h l : Int} (k : Nat) (hk : 64 ≤ k) (hk' : k < 128) : wN h l / 2 ^ (127 - k) % 2 = l / 2 ^ (127 - k) % 2 := by
  have hp : (0 : Int) < 2 ^ (127 - k) := Int.pow_pos (by omega)
  have e1 : (18446744073709551616 : Int) = 2 * 2 ^ (k - 64) * 2 ^ (127 - k) := by
    rw [Int.mul_assoc, ← Int.pow_add, show k - 64 + (127 - k) = 63 by omega]
    rfl
  have e : wN h l = l + h * (2 * 2 ^ (k - 64)) * 2 ^ (127 - k) := by
    unfold wN
    rw [Int.mul_assoc h, ← e1]
    omega
  rw [e, Int.add_mul_ediv_right _ _ (by omega), show h * (2 * 2 ^ (k - 64)) = 2 * (h * 2 ^ (k - 64)) by rw [← Int.mul_assoc, Int.mul_comm h 2, Int.mul_assoc]]
  omega

theorem and_one {x : Int} (h0 : 0 ≤ x) (h1 : x < 18446744073709551616) : bits .and .u64 x 1 = x % 2 := by go_bits2

def qk (n d : Int) (k : Nat) : Int := topk n k / d
def rk (n d : Int) (k : Nat) : Int := topk n k % d
/-- One digit more. -/
theorem step_facts {n d : Int} (hd : 0 < d) (k : Nat) (hk : k < 128) (b : Int) (hb : n / 2 ^ (127 - k) % 2 = b) :
    (d ≤ 2 * rk n d k + b → qk n d (k + 1) = 2 * qk n d k + 1 ∧ rk n d (k + 1) = 2 * rk n d k + b - d) ∧
    (2 * rk n d k + b < d → qk n d (k + 1) = 2 * qk n d k ∧ rk n d (k + 1) = 2 * rk n d k + b) ∧ (b = 0 ∨ b = 1) ∧ 0 ≤ rk n d k ∧ rk n d k < d := by
  have h0 := Int.mul_ediv_add_emod (topk n k) d
  have h1 := Int.emod_nonneg (topk n k) (show d ≠ 0 by omega)
  have h2 := Int.emod_lt_of_pos (topk n k) hd
  have h3 := topk_step n k hk
  rw [hb] at h3
  unfold qk rk
  generalize topk n k / d = q at *
  generalize topk n k % d = r at *
  refine ⟨fun h => ?_, fun h => ?_, by omega, h1, h2⟩
  · have e : topk n (k + 1) = (2 * r + b - d) + (2 * q + 1) * d := by rw [h3, ← h0, Int.add_mul, Int.mul_assoc, Int.mul_comm d q]; omega
    rw [e, Int.add_mul_ediv_right _ _ (by omega), Int.add_mul_emod_self_right, Int.ediv_eq_zero_of_lt (by omega) (by omega), Int.emod_eq_of_lt (by omega) (by omega)]
    omega
  · have e : topk n (k + 1) = (2 * r + b) + 2 * q * d := by rw [h3, ← h0, Int.mul_assoc, Int.mul_comm d q]; omega
    rw [e, Int.add_mul_ediv_right _ _ (by omega), Int.add_mul_emod_self_right, Int.ediv_eq_zero_of_lt (by omega) (by omega), Int.emod_eq_of_lt (by omega) (by omega)]
    omega

set_option maxRecDepth 100000 in
set_option maxHeartbeats 1600000 in
theorem rdiv_ok {ah al d : Int} (w : World) (h1 : isU ah) (h2 : isU al) (h3 : isU d) (hd : d ≠ 0) (n : Int) (en : Hid (wN ah al = n)) :
    Calls Try.prog 94 #[.agg #[.int .u64 ah, .int .u64 al], .int .u64 d] w fun e w' =>
      e = .returned (.tuple #[.agg #[.int .u64 (wHi (n / d)), .int .u64 (wLo (n / d))], .int .u64 (n % d), .int .i64 0]) ∧ Below w.heap.size w w' := by
  have hd0 : (d == 0) = false := beq_eq_false_iff_ne.2 hd
  have hd1 : 0 < d := by unfold isU at h3; omega
  have hn : isW n := by rw [← en.out]; exact isW_of h1 h2
  have t0 : Hid (qk n d 0 = 0 ∧ rk n d 0 = 0) := by
    refine Lib.hid ?_
    unfold qk rk
    rw [topk_zero hn]
    exact ⟨Int.zero_ediv d, Int.zero_emod d⟩
  go_enter Try.func94, Try.ntmps94
  go_wp2
  go_loopw [9] (fun i wr => ∃ k : Nat, k ≤ 128 ∧ i = .int .i64 (127 - (k : Int)) ∧ Box wr (w.heap.size + 1 + 1) [.int .u64 (wHi (qk n d k)), .int .u64 (wLo (qk n d k))] ∧ Box wr (w.heap.size + 1 + 1 + 1) [.int .u64 0, .int .u64 (rk n d k)] ∧ Box wr w.heap.size [.int .u64 ah, .int .u64 al] ∧ Box wr (w.heap.size + 1) [.int .u64 0, .int .u64 0] ∧ Below w.heap.size w wr) (fun i _ => (intOf i + 1).toNat)
  case atStart =>
    refine ⟨0, by omega, by go_num, ?_, ?_, ?_, ?_, ?_⟩
    · rw [t0.out.1, wHi_zero, wLo_zero]
      exact (by repeat (first | (with_reducible assumption) | (with_reducible refine Box.drew ?_) | (with_reducible refine Box.drewN ?_ _) | ((with_reducible refine Box.new ?_); simp; done) | (with_reducible apply Box.set2) | (with_reducible refine Box.alloc ?_ _) | (with_reducible refine Box.other ?_ (by first | (dsimp only; omega) | omega) _)))
    · rw [t0.out.2]
      exact (by repeat (first | (with_reducible assumption) | (with_reducible refine Box.drew ?_) | (with_reducible refine Box.drewN ?_ _) | ((with_reducible refine Box.new ?_); simp; done) | (with_reducible apply Box.set2) | (with_reducible refine Box.alloc ?_ _) | (with_reducible refine Box.other ?_ (by first | (dsimp only; omega) | omega) _)))
    · exact (by repeat (first | (with_reducible assumption) | (with_reducible refine Box.drew ?_) | (with_reducible refine Box.drewN ?_ _) | ((with_reducible refine Box.new ?_); simp; done) | (with_reducible apply Box.set2) | (with_reducible refine Box.alloc ?_ _) | (with_reducible refine Box.other ?_ (by first | (dsimp only; omega) | omega) _)))
    · exact (by repeat (first | (with_reducible assumption) | (with_reducible refine Box.drew ?_) | (with_reducible refine Box.drewN ?_ _) | ((with_reducible refine Box.new ?_); simp; done) | (with_reducible apply Box.set2) | (with_reducible refine Box.alloc ?_ _) | (with_reducible refine Box.other ?_ (by first | (dsimp only; omega) | omega) _)))
    · go_grown
  case round =>
    obtain ⟨k, hk, rfl, x_q0, x_t0, x_a0, x_r0, hB0⟩ := hrel
    have sf0 := step_facts (n := n) hd1 k
    have hth := topk_half hn k
    have htb := (topk_bd hn k).1
    have hQ0 : 0 ≤ qk n d k := Int.ediv_nonneg htb (by omega)
    have hQ1 : qk n d k ≤ topk n k := Int.ediv_le_self d htb
    by_cases hk2 : k < 128
    · have hth2 := hth hk2
      have sf1 := sf0 hk2 _ rfl
      obtain ⟨b, hb⟩ : ∃ b, n / 2 ^ (127 - k) % 2 = b := ⟨_, rfl⟩
      rw [hb] at sf1
      obtain ⟨s1, s2, s3, s4, s5⟩ := sf1
      clear sf0 hth htb
      generalize hQ : qk n d k = Q at x_q0 s1 s2 hQ0 hQ1
      generalize hR : rk n d k = R at x_t0 s1 s2 s4 s5
      clear hQ hR
      obtain ⟨V, hV⟩ : ∃ V, 2 * R + b = V := ⟨_, rfl⟩
      rw [hV] at s1 s2
      have S1 := Lib.hid s1; have S2 := Lib.hid s2; have HV := Lib.hid hV
      have hV0 : 0 ≤ V := by omega
      have hV1 : V < 36893488147419103232 := by unfold isU at h3; omega
      have hd2 := h3.2
      have hV2 : V < d + d := by omega
      have e1 : IntKind.u64.wrap (R / 9223372036854775808) = wHi V := by rw [IntKind.wrap_u64]; unfold wHi; omega
      have e2 : IntKind.u64.wrap (IntKind.u64.wrap (R * 2) + b) = wLo V := by rw [IntKind.wrap_u64, IntKind.wrap_u64]; unfold wLo; omega
      have e3 : IntKind.u64.wrap (IntKind.u64.wrap (wHi Q * 2) + wLo Q / 9223372036854775808) = wHi (2 * Q) := by rw [IntKind.wrap_u64, IntKind.wrap_u64]; unfold wHi wLo; omega
      have e4 : IntKind.u64.wrap (wLo Q * 2) = wLo (2 * Q) := by rw [IntKind.wrap_u64]; unfold wLo; omega
      have e5 : IntKind.u64.wrap (wLo (2 * Q) + 1) = wLo (2 * Q + 1) := by rw [IntKind.wrap_u64]; unfold wLo; omega
      have E6 : Hid (wHi (2 * Q) = wHi (2 * Q + 1)) := by refine Lib.hid ?_; unfold wHi; omega
      have uV := isU_lo V
      have uV' : isU (wHi V) := by unfold isU wHi; omega
      have hWV : wN (wHi V) (wLo V) = V := wN_parts V
      have hW0 : wN 0 d = d := by unfold wN; omega
      obtain ⟨m, em⟩ : ∃ m, cmpI (wN (wHi V) (wLo V)) (wN 0 d) = m := ⟨_, rfl⟩
      have EM := Lib.hid em
      rw [hWV, hW0] at em
      have hs0 : w.heap.size ≤ wr.heap.size := hB0.size
      clear s1 s2 hV hWV hth2 hQ0 hQ1
      by_cases hk3 : k ≤ 63
      · have hdg : bits BinOp.and IntKind.u64 (ah / 2 ^ (127 - k - 64)) 1 = b := by
          rw [show 127 - k - 64 = 63 - k from by omega, and_one, ← hb, ← en.out, digit_high h2 k hk3]
          · exact Int.ediv_nonneg h1.1 (Int.le_of_lt (Int.pow_pos (by omega)))
          · have := Int.ediv_le_self (2 ^ (63 - k)) h1.1; have := h1.2; omega
        clear hb
        by_cases hge : d ≤ V
        · have m0 : decide (m ≥ 0) = true := by rw [← em]; unfold cmpI; rw [if_neg (by omega)]; split <;> rfl
          have uD : isU (V - d) := by unfold isU; omega
          have ED : Hid (wN (wHi V) (wLo V) - wN 0 d = wN 0 (V - d)) := by refine Lib.hid ?_; rw [wN_parts, hW0]; unfold wN; omega
          have hVd := HV.out
          clear em hW0 hVd
          have z_q0 := x_q0.lt
          have c_q0_0 := x_q0.c 0 _ rfl; have f_q0_0 := x_q0.f 0 _ rfl
          have c_q0_1 := x_q0.c 1 _ rfl; have f_q0_1 := x_q0.f 1 _ rfl
          have z_t0 := x_t0.lt
          have c_t0_0 := x_t0.c 0 _ rfl; have f_t0_0 := x_t0.f 0 _ rfl
          have c_t0_1 := x_t0.c 1 _ rfl; have f_t0_1 := x_t0.f 1 _ rfl
          have z_a0 := x_a0.lt
          have c_a0_0 := x_a0.c 0 _ rfl; have f_a0_0 := x_a0.f 0 _ rfl
          have c_a0_1 := x_a0.c 1 _ rfl; have f_a0_1 := x_a0.f 1 _ rfl
          have z_r0 := x_r0.lt
          have c_r0_0 := x_r0.c 0 _ rfl; have f_r0_0 := x_r0.f 0 _ rfl
          have c_r0_1 := x_r0.c 1 _ rfl; have f_r0_1 := x_r0.f 1 _ rfl
          go_wp2_with fail
          refine (rcmp_nm _ uV h3 EM.out).mono ?_
          rintro e w1 ⟨rfl, hb⟩
          have hB1 : Below w.heap.size w w1 := below_thru (by go_grown) hb
          have hs1 : w.heap.size ≤ w1.heap.size := hB1.size
          have x_q1 : Box w1 (w.heap.size + 1 + 1) [.int .u64 (wHi (2 * Q)), .int .u64 (wLo (2 * Q))] := (by refine Box.below ?_ hb; repeat (first | (with_reducible assumption) | (with_reducible refine Box.drew ?_) | (with_reducible refine Box.drewN ?_ _) | ((with_reducible refine Box.new ?_); simp; done) | (with_reducible apply Box.set2) | (with_reducible refine Box.alloc ?_ _) | (with_reducible refine Box.other ?_ (by first | (dsimp only; omega) | omega) _)))
          have z_q1 := x_q1.lt
          have c_q1_0 := x_q1.c 0 _ rfl
          have f_q1_0 := x_q1.f 0 _ rfl
          have c_q1_1 := x_q1.c 1 _ rfl
          have f_q1_1 := x_q1.f 1 _ rfl
          have x_t1 : Box w1 (w.heap.size + 1 + 1 + 1) [.int .u64 (wHi V), .int .u64 (wLo V)] := (by refine Box.below ?_ hb; repeat (first | (with_reducible assumption) | (with_reducible refine Box.drew ?_) | (with_reducible refine Box.drewN ?_ _) | ((with_reducible refine Box.new ?_); simp; done) | (with_reducible apply Box.set2) | (with_reducible refine Box.alloc ?_ _) | (with_reducible refine Box.other ?_ (by first | (dsimp only; omega) | omega) _)))
          have z_t1 := x_t1.lt
          have c_t1_0 := x_t1.c 0 _ rfl
          have f_t1_0 := x_t1.f 0 _ rfl
          have c_t1_1 := x_t1.c 1 _ rfl
          have f_t1_1 := x_t1.f 1 _ rfl
          have x_a1 : Box w1 (w.heap.size) [.int .u64 ah, .int .u64 al] := (by refine Box.below ?_ hb; repeat (first | (with_reducible assumption) | (with_reducible refine Box.drew ?_) | (with_reducible refine Box.drewN ?_ _) | ((with_reducible refine Box.new ?_); simp; done) | (with_reducible apply Box.set2) | (with_reducible refine Box.alloc ?_ _) | (with_reducible refine Box.other ?_ (by first | (dsimp only; omega) | omega) _)))
          have z_a1 := x_a1.lt
          have c_a1_0 := x_a1.c 0 _ rfl
          have f_a1_0 := x_a1.f 0 _ rfl
          have c_a1_1 := x_a1.c 1 _ rfl
          have f_a1_1 := x_a1.f 1 _ rfl
          have x_r1 : Box w1 (w.heap.size + 1) [.int .u64 0, .int .u64 0] := (by refine Box.below ?_ hb; repeat (first | (with_reducible assumption) | (with_reducible refine Box.drew ?_) | (with_reducible refine Box.drewN ?_ _) | ((with_reducible refine Box.new ?_); simp; done) | (with_reducible apply Box.set2) | (with_reducible refine Box.alloc ?_ _) | (with_reducible refine Box.other ?_ (by first | (dsimp only; omega) | omega) _)))
          have z_r1 := x_r1.lt
          have c_r1_0 := x_r1.c 0 _ rfl
          have f_r1_0 := x_r1.f 0 _ rfl
          have c_r1_1 := x_r1.c 1 _ rfl
          have f_r1_1 := x_r1.f 1 _ rfl
          clear hb x_q0 z_q0 c_q0_0 c_q0_1 f_q0_0 f_q0_1 x_t0 z_t0 c_t0_0 c_t0_1 f_t0_0 f_t0_1 x_a0 z_a0 c_a0_0 c_a0_1 f_a0_0 f_a0_1 x_r0 z_r0 c_r0_0 c_r0_1 f_r0_0 f_r0_1
          go_wp2_with fail
          refine (rless_ok _ uV' uV u0 h3 u0 uD ED.out).mono ?_
          rintro e w2 ⟨rfl, hb⟩
          have hB2 : Below w.heap.size w w2 := below_thru (by go_grown) hb
          have hs2 : w.heap.size ≤ w2.heap.size := hB2.size
          have x_q2 : Box w2 (w.heap.size + 1 + 1) [.int .u64 (wHi (2 * Q)), .int .u64 (wLo (2 * Q))] := (by refine Box.below ?_ hb; repeat (first | (with_reducible assumption) | (with_reducible refine Box.drew ?_) | (with_reducible refine Box.drewN ?_ _) | ((with_reducible refine Box.new ?_); simp; done) | (with_reducible apply Box.set2) | (with_reducible refine Box.alloc ?_ _) | (with_reducible refine Box.other ?_ (by first | (dsimp only; omega) | omega) _)))
          have z_q2 := x_q2.lt
          have c_q2_0 := x_q2.c 0 _ rfl
          have f_q2_0 := x_q2.f 0 _ rfl
          have c_q2_1 := x_q2.c 1 _ rfl
          have f_q2_1 := x_q2.f 1 _ rfl
          have x_t2 : Box w2 (w.heap.size + 1 + 1 + 1) [.int .u64 (wHi V), .int .u64 (wLo V)] := (by refine Box.below ?_ hb; repeat (first | (with_reducible assumption) | (with_reducible refine Box.drew ?_) | (with_reducible refine Box.drewN ?_ _) | ((with_reducible refine Box.new ?_); simp; done) | (with_reducible apply Box.set2) | (with_reducible refine Box.alloc ?_ _) | (with_reducible refine Box.other ?_ (by first | (dsimp only; omega) | omega) _)))
          have z_t2 := x_t2.lt
          have c_t2_0 := x_t2.c 0 _ rfl
          have f_t2_0 := x_t2.f 0 _ rfl
          have c_t2_1 := x_t2.c 1 _ rfl
          have f_t2_1 := x_t2.f 1 _ rfl
          have x_a2 : Box w2 (w.heap.size) [.int .u64 ah, .int .u64 al] := (by refine Box.below ?_ hb; repeat (first | (with_reducible assumption) | (with_reducible refine Box.drew ?_) | (with_reducible refine Box.drewN ?_ _) | ((with_reducible refine Box.new ?_); simp; done) | (with_reducible apply Box.set2) | (with_reducible refine Box.alloc ?_ _) | (with_reducible refine Box.other ?_ (by first | (dsimp only; omega) | omega) _)))
          have z_a2 := x_a2.lt
          have c_a2_0 := x_a2.c 0 _ rfl
          have f_a2_0 := x_a2.f 0 _ rfl
          have c_a2_1 := x_a2.c 1 _ rfl
          have f_a2_1 := x_a2.f 1 _ rfl
          have x_r2 : Box w2 (w.heap.size + 1) [.int .u64 0, .int .u64 0] := (by refine Box.below ?_ hb; repeat (first | (with_reducible assumption) | (with_reducible refine Box.drew ?_) | (with_reducible refine Box.drewN ?_ _) | ((with_reducible refine Box.new ?_); simp; done) | (with_reducible apply Box.set2) | (with_reducible refine Box.alloc ?_ _) | (with_reducible refine Box.other ?_ (by first | (dsimp only; omega) | omega) _)))
          have z_r2 := x_r2.lt
          have c_r2_0 := x_r2.c 0 _ rfl
          have f_r2_0 := x_r2.f 0 _ rfl
          have c_r2_1 := x_r2.c 1 _ rfl
          have f_r2_1 := x_r2.f 1 _ rfl
          clear hb hB1 hs1 x_q1 z_q1 c_q1_0 c_q1_1 f_q1_0 f_q1_1 x_t1 z_t1 c_t1_0 c_t1_1 f_t1_0 f_t1_1 x_a1 z_a1 c_a1_0 c_a1_1 f_a1_0 f_a1_1 x_r1 z_r1 c_r1_0 c_r1_1 f_r1_0 f_r1_1
          go_wp2_with fail
          go_roundw
          case rel =>
            refine ⟨k + 1, by omega, by go_num, ?_, ?_, ?_, ?_, ?_⟩
            · rw [(S1.out hge).1, ← E6.out]
              have y := ((x_q2.other (a := ⟨w.heap.size + 1 + 1 + 1, 0, none⟩) (by dsimp only; omega) (.int .u64 0)).other (a := ⟨w.heap.size + 1 + 1 + 1, 1, none⟩) (by dsimp only; omega) (.int .u64 (V - d))).set 1 (.int .u64 (wLo (2 * Q + 1)))
              exact y
            · rw [(S1.out hge).2]
              repeat (first | (with_reducible assumption) | (with_reducible refine Box.drew ?_) | (with_reducible apply Box.set2) | (with_reducible refine Box.alloc ?_ _) | (with_reducible refine Box.other ?_ (by first | (dsimp only; omega) | omega) _))
            · repeat (first | (with_reducible assumption) | (with_reducible refine Box.drew ?_) | (with_reducible apply Box.set2) | (with_reducible refine Box.alloc ?_ _) | (with_reducible refine Box.other ?_ (by first | (dsimp only; omega) | omega) _))
            · repeat (first | (with_reducible assumption) | (with_reducible refine Box.drew ?_) | (with_reducible apply Box.set2) | (with_reducible refine Box.alloc ?_ _) | (with_reducible refine Box.other ?_ (by first | (dsimp only; omega) | omega) _))
            · go_grown
          case measure => simp [intOf]; omega
        · have hlt : V < d := by omega
          have m0 : decide (m ≥ 0) = false := by rw [← em]; unfold cmpI; rw [if_pos hlt]; rfl
          have hv1 : wHi V = 0 := by unfold wHi; omega
          have hv2 : wLo V = V := by unfold wLo; omega
          have Hv1 := Lib.hid hv1; have Hv2 := Lib.hid hv2
          clear em hW0 hv1 hv2
          have z_q0 := x_q0.lt
          have c_q0_0 := x_q0.c 0 _ rfl; have f_q0_0 := x_q0.f 0 _ rfl
          have c_q0_1 := x_q0.c 1 _ rfl; have f_q0_1 := x_q0.f 1 _ rfl
          have z_t0 := x_t0.lt
          have c_t0_0 := x_t0.c 0 _ rfl; have f_t0_0 := x_t0.f 0 _ rfl
          have c_t0_1 := x_t0.c 1 _ rfl; have f_t0_1 := x_t0.f 1 _ rfl
          have z_a0 := x_a0.lt
          have c_a0_0 := x_a0.c 0 _ rfl; have f_a0_0 := x_a0.f 0 _ rfl
          have c_a0_1 := x_a0.c 1 _ rfl; have f_a0_1 := x_a0.f 1 _ rfl
          have z_r0 := x_r0.lt
          have c_r0_0 := x_r0.c 0 _ rfl; have f_r0_0 := x_r0.f 0 _ rfl
          have c_r0_1 := x_r0.c 1 _ rfl; have f_r0_1 := x_r0.f 1 _ rfl
          go_wp2_with fail
          refine (rcmp_nm _ uV h3 EM.out).mono ?_
          rintro e w1 ⟨rfl, hb⟩
          have hB1 : Below w.heap.size w w1 := below_thru (by go_grown) hb
          have hs1 : w.heap.size ≤ w1.heap.size := hB1.size
          have x_q1 : Box w1 (w.heap.size + 1 + 1) [.int .u64 (wHi (2 * Q)), .int .u64 (wLo (2 * Q))] := (by refine Box.below ?_ hb; repeat (first | (with_reducible assumption) | (with_reducible refine Box.drew ?_) | (with_reducible refine Box.drewN ?_ _) | ((with_reducible refine Box.new ?_); simp; done) | (with_reducible apply Box.set2) | (with_reducible refine Box.alloc ?_ _) | (with_reducible refine Box.other ?_ (by first | (dsimp only; omega) | omega) _)))
          have z_q1 := x_q1.lt
          have c_q1_0 := x_q1.c 0 _ rfl
          have f_q1_0 := x_q1.f 0 _ rfl
          have c_q1_1 := x_q1.c 1 _ rfl
          have f_q1_1 := x_q1.f 1 _ rfl
          have x_t1 : Box w1 (w.heap.size + 1 + 1 + 1) [.int .u64 (wHi V), .int .u64 (wLo V)] := (by refine Box.below ?_ hb; repeat (first | (with_reducible assumption) | (with_reducible refine Box.drew ?_) | (with_reducible refine Box.drewN ?_ _) | ((with_reducible refine Box.new ?_); simp; done) | (with_reducible apply Box.set2) | (with_reducible refine Box.alloc ?_ _) | (with_reducible refine Box.other ?_ (by first | (dsimp only; omega) | omega) _)))
          have z_t1 := x_t1.lt
          have c_t1_0 := x_t1.c 0 _ rfl
          have f_t1_0 := x_t1.f 0 _ rfl
          have c_t1_1 := x_t1.c 1 _ rfl
          have f_t1_1 := x_t1.f 1 _ rfl
          have x_a1 : Box w1 (w.heap.size) [.int .u64 ah, .int .u64 al] := (by refine Box.below ?_ hb; repeat (first | (with_reducible assumption) | (with_reducible refine Box.drew ?_) | (with_reducible refine Box.drewN ?_ _) | ((with_reducible refine Box.new ?_); simp; done) | (with_reducible apply Box.set2) | (with_reducible refine Box.alloc ?_ _) | (with_reducible refine Box.other ?_ (by first | (dsimp only; omega) | omega) _)))
          have z_a1 := x_a1.lt
          have c_a1_0 := x_a1.c 0 _ rfl
          have f_a1_0 := x_a1.f 0 _ rfl
          have c_a1_1 := x_a1.c 1 _ rfl
          have f_a1_1 := x_a1.f 1 _ rfl
          have x_r1 : Box w1 (w.heap.size + 1) [.int .u64 0, .int .u64 0] := (by refine Box.below ?_ hb; repeat (first | (with_reducible assumption) | (with_reducible refine Box.drew ?_) | (with_reducible refine Box.drewN ?_ _) | ((with_reducible refine Box.new ?_); simp; done) | (with_reducible apply Box.set2) | (with_reducible refine Box.alloc ?_ _) | (with_reducible refine Box.other ?_ (by first | (dsimp only; omega) | omega) _)))
          have z_r1 := x_r1.lt
          have c_r1_0 := x_r1.c 0 _ rfl
          have f_r1_0 := x_r1.f 0 _ rfl
          have c_r1_1 := x_r1.c 1 _ rfl
          have f_r1_1 := x_r1.f 1 _ rfl
          clear hb x_q0 z_q0 c_q0_0 c_q0_1 f_q0_0 f_q0_1 x_t0 z_t0 c_t0_0 c_t0_1 f_t0_0 f_t0_1 x_a0 z_a0 c_a0_0 c_a0_1 f_a0_0 f_a0_1 x_r0 z_r0 c_r0_0 c_r0_1 f_r0_0 f_r0_1
          go_wp2_with fail
          go_roundw
          case rel =>
            refine ⟨k + 1, by omega, by go_num, ?_, ?_, ?_, ?_, ?_⟩
            · rw [(S2.out hlt).1]
              exact x_q1
            · rw [(S2.out hlt).2]
              have y := x_t1
              rw [Hv1.out, Hv2.out] at y
              exact y
            · repeat (first | (with_reducible assumption) | (with_reducible refine Box.drew ?_) | (with_reducible apply Box.set2) | (with_reducible refine Box.alloc ?_ _) | (with_reducible refine Box.other ?_ (by first | (dsimp only; omega) | omega) _))
            · repeat (first | (with_reducible assumption) | (with_reducible refine Box.drew ?_) | (with_reducible apply Box.set2) | (with_reducible refine Box.alloc ?_ _) | (with_reducible refine Box.other ?_ (by first | (dsimp only; omega) | omega) _))
            · go_grown
          case measure => simp [intOf]; omega
      · have hdg : bits BinOp.and IntKind.u64 (al / 2 ^ (127 - k)) 1 = b := by
          rw [and_one, ← hb, ← en.out, digit_low k (by omega) hk2]
          · exact Int.ediv_nonneg h2.1 (Int.le_of_lt (Int.pow_pos (by omega)))
          · have := Int.ediv_le_self (2 ^ (127 - k)) h2.1; have := h2.2; omega
        clear hb
        by_cases hge : d ≤ V
        · have m0 : decide (m ≥ 0) = true := by rw [← em]; unfold cmpI; rw [if_neg (by omega)]; split <;> rfl
          have uD : isU (V - d) := by unfold isU; omega
          have ED : Hid (wN (wHi V) (wLo V) - wN 0 d = wN 0 (V - d)) := by refine Lib.hid ?_; rw [wN_parts, hW0]; unfold wN; omega
          have hVd := HV.out
          clear em hW0 hVd
          have z_q0 := x_q0.lt
          have c_q0_0 := x_q0.c 0 _ rfl; have f_q0_0 := x_q0.f 0 _ rfl
          have c_q0_1 := x_q0.c 1 _ rfl; have f_q0_1 := x_q0.f 1 _ rfl
          have z_t0 := x_t0.lt
          have c_t0_0 := x_t0.c 0 _ rfl; have f_t0_0 := x_t0.f 0 _ rfl
          have c_t0_1 := x_t0.c 1 _ rfl; have f_t0_1 := x_t0.f 1 _ rfl
          have z_a0 := x_a0.lt
          have c_a0_0 := x_a0.c 0 _ rfl; have f_a0_0 := x_a0.f 0 _ rfl
          have c_a0_1 := x_a0.c 1 _ rfl; have f_a0_1 := x_a0.f 1 _ rfl
          have z_r0 := x_r0.lt
          have c_r0_0 := x_r0.c 0 _ rfl; have f_r0_0 := x_r0.f 0 _ rfl
          have c_r0_1 := x_r0.c 1 _ rfl; have f_r0_1 := x_r0.f 1 _ rfl
          go_wp2_with fail
          refine (rcmp_nm _ uV h3 EM.out).mono ?_
          rintro e w1 ⟨rfl, hb⟩
          have hB1 : Below w.heap.size w w1 := below_thru (by go_grown) hb
          have hs1 : w.heap.size ≤ w1.heap.size := hB1.size
          have x_q1 : Box w1 (w.heap.size + 1 + 1) [.int .u64 (wHi (2 * Q)), .int .u64 (wLo (2 * Q))] := (by refine Box.below ?_ hb; repeat (first | (with_reducible assumption) | (with_reducible refine Box.drew ?_) | (with_reducible refine Box.drewN ?_ _) | ((with_reducible refine Box.new ?_); simp; done) | (with_reducible apply Box.set2) | (with_reducible refine Box.alloc ?_ _) | (with_reducible refine Box.other ?_ (by first | (dsimp only; omega) | omega) _)))
          have z_q1 := x_q1.lt
          have c_q1_0 := x_q1.c 0 _ rfl
          have f_q1_0 := x_q1.f 0 _ rfl
          have c_q1_1 := x_q1.c 1 _ rfl
          have f_q1_1 := x_q1.f 1 _ rfl
          have x_t1 : Box w1 (w.heap.size + 1 + 1 + 1) [.int .u64 (wHi V), .int .u64 (wLo V)] := (by refine Box.below ?_ hb; repeat (first | (with_reducible assumption) | (with_reducible refine Box.drew ?_) | (with_reducible refine Box.drewN ?_ _) | ((with_reducible refine Box.new ?_); simp; done) | (with_reducible apply Box.set2) | (with_reducible refine Box.alloc ?_ _) | (with_reducible refine Box.other ?_ (by first | (dsimp only; omega) | omega) _)))
          have z_t1 := x_t1.lt
          have c_t1_0 := x_t1.c 0 _ rfl
          have f_t1_0 := x_t1.f 0 _ rfl
          have c_t1_1 := x_t1.c 1 _ rfl
          have f_t1_1 := x_t1.f 1 _ rfl
          have x_a1 : Box w1 (w.heap.size) [.int .u64 ah, .int .u64 al] := (by refine Box.below ?_ hb; repeat (first | (with_reducible assumption) | (with_reducible refine Box.drew ?_) | (with_reducible refine Box.drewN ?_ _) | ((with_reducible refine Box.new ?_); simp; done) | (with_reducible apply Box.set2) | (with_reducible refine Box.alloc ?_ _) | (with_reducible refine Box.other ?_ (by first | (dsimp only; omega) | omega) _)))
          have z_a1 := x_a1.lt
          have c_a1_0 := x_a1.c 0 _ rfl
          have f_a1_0 := x_a1.f 0 _ rfl
          have c_a1_1 := x_a1.c 1 _ rfl
          have f_a1_1 := x_a1.f 1 _ rfl
          have x_r1 : Box w1 (w.heap.size + 1) [.int .u64 0, .int .u64 0] := (by refine Box.below ?_ hb; repeat (first | (with_reducible assumption) | (with_reducible refine Box.drew ?_) | (with_reducible refine Box.drewN ?_ _) | ((with_reducible refine Box.new ?_); simp; done) | (with_reducible apply Box.set2) | (with_reducible refine Box.alloc ?_ _) | (with_reducible refine Box.other ?_ (by first | (dsimp only; omega) | omega) _)))
          have z_r1 := x_r1.lt
          have c_r1_0 := x_r1.c 0 _ rfl
          have f_r1_0 := x_r1.f 0 _ rfl
          have c_r1_1 := x_r1.c 1 _ rfl
          have f_r1_1 := x_r1.f 1 _ rfl
          clear hb x_q0 z_q0 c_q0_0 c_q0_1 f_q0_0 f_q0_1 x_t0 z_t0 c_t0_0 c_t0_1 f_t0_0 f_t0_1 x_a0 z_a0 c_a0_0 c_a0_1 f_a0_0 f_a0_1 x_r0 z_r0 c_r0_0 c_r0_1 f_r0_0 f_r0_1
          go_wp2_with fail
          refine (rless_ok _ uV' uV u0 h3 u0 uD ED.out).mono ?_
          rintro e w2 ⟨rfl, hb⟩
          have hB2 : Below w.heap.size w w2 := below_thru (by go_grown) hb
          have hs2 : w.heap.size ≤ w2.heap.size := hB2.size
          have x_q2 : Box w2 (w.heap.size + 1 + 1) [.int .u64 (wHi (2 * Q)), .int .u64 (wLo (2 * Q))] := (by refine Box.below ?_ hb; repeat (first | (with_reducible assumption) | (with_reducible refine Box.drew ?_) | (with_reducible refine Box.drewN ?_ _) | ((with_reducible refine Box.new ?_); simp; done) | (with_reducible apply Box.set2) | (with_reducible refine Box.alloc ?_ _) | (with_reducible refine Box.other ?_ (by first | (dsimp only; omega) | omega) _)))
          have z_q2 := x_q2.lt
          have c_q2_0 := x_q2.c 0 _ rfl
          have f_q2_0 := x_q2.f 0 _ rfl
          have c_q2_1 := x_q2.c 1 _ rfl
          have f_q2_1 := x_q2.f 1 _ rfl
          have x_t2 : Box w2 (w.heap.size + 1 + 1 + 1) [.int .u64 (wHi V), .int .u64 (wLo V)] := (by refine Box.below ?_ hb; repeat (first | (with_reducible assumption) | (with_reducible refine Box.drew ?_) | (with_reducible refine Box.drewN ?_ _) | ((with_reducible refine Box.new ?_); simp; done) | (with_reducible apply Box.set2) | (with_reducible refine Box.alloc ?_ _) | (with_reducible refine Box.other ?_ (by first | (dsimp only; omega) | omega) _)))
          have z_t2 := x_t2.lt
          have c_t2_0 := x_t2.c 0 _ rfl
          have f_t2_0 := x_t2.f 0 _ rfl
          have c_t2_1 := x_t2.c 1 _ rfl
          have f_t2_1 := x_t2.f 1 _ rfl
          have x_a2 : Box w2 (w.heap.size) [.int .u64 ah, .int .u64 al] := (by refine Box.below ?_ hb; repeat (first | (with_reducible assumption) | (with_reducible refine Box.drew ?_) | (with_reducible refine Box.drewN ?_ _) | ((with_reducible refine Box.new ?_); simp; done) | (with_reducible apply Box.set2) | (with_reducible refine Box.alloc ?_ _) | (with_reducible refine Box.other ?_ (by first | (dsimp only; omega) | omega) _)))
          have z_a2 := x_a2.lt
          have c_a2_0 := x_a2.c 0 _ rfl
          have f_a2_0 := x_a2.f 0 _ rfl
          have c_a2_1 := x_a2.c 1 _ rfl
          have f_a2_1 := x_a2.f 1 _ rfl
          have x_r2 : Box w2 (w.heap.size + 1) [.int .u64 0, .int .u64 0] := (by refine Box.below ?_ hb; repeat (first | (with_reducible assumption) | (with_reducible refine Box.drew ?_) | (with_reducible refine Box.drewN ?_ _) | ((with_reducible refine Box.new ?_); simp; done) | (with_reducible apply Box.set2) | (with_reducible refine Box.alloc ?_ _) | (with_reducible refine Box.other ?_ (by first | (dsimp only; omega) | omega) _)))
          have z_r2 := x_r2.lt
          have c_r2_0 := x_r2.c 0 _ rfl
          have f_r2_0 := x_r2.f 0 _ rfl
          have c_r2_1 := x_r2.c 1 _ rfl
          have f_r2_1 := x_r2.f 1 _ rfl
          clear hb hB1 hs1 x_q1 z_q1 c_q1_0 c_q1_1 f_q1_0 f_q1_1 x_t1 z_t1 c_t1_0 c_t1_1 f_t1_0 f_t1_1 x_a1 z_a1 c_a1_0 c_a1_1 f_a1_0 f_a1_1 x_r1 z_r1 c_r1_0 c_r1_1 f_r1_0 f_r1_1
          go_wp2_with fail
          go_roundw
          case rel =>
            refine ⟨k + 1, by omega, by go_num, ?_, ?_, ?_, ?_, ?_⟩
            · rw [(S1.out hge).1, ← E6.out]
              have y := ((x_q2.other (a := ⟨w.heap.size + 1 + 1 + 1, 0, none⟩) (by dsimp only; omega) (.int .u64 0)).other (a := ⟨w.heap.size + 1 + 1 + 1, 1, none⟩) (by dsimp only; omega) (.int .u64 (V - d))).set 1 (.int .u64 (wLo (2 * Q + 1)))
              exact y
            · rw [(S1.out hge).2]
              repeat (first | (with_reducible assumption) | (with_reducible refine Box.drew ?_) | (with_reducible apply Box.set2) | (with_reducible refine Box.alloc ?_ _) | (with_reducible refine Box.other ?_ (by first | (dsimp only; omega) | omega) _))
            · repeat (first | (with_reducible assumption) | (with_reducible refine Box.drew ?_) | (with_reducible apply Box.set2) | (with_reducible refine Box.alloc ?_ _) | (with_reducible refine Box.other ?_ (by first | (dsimp only; omega) | omega) _))
            · repeat (first | (with_reducible assumption) | (with_reducible refine Box.drew ?_) | (with_reducible apply Box.set2) | (with_reducible refine Box.alloc ?_ _) | (with_reducible refine Box.other ?_ (by first | (dsimp only; omega) | omega) _))
            · go_grown
          case measure => simp [intOf]; omega
        · have hlt : V < d := by omega
          have m0 : decide (m ≥ 0) = false := by rw [← em]; unfold cmpI; rw [if_pos hlt]; rfl
          have hv1 : wHi V = 0 := by unfold wHi; omega
          have hv2 : wLo V = V := by unfold wLo; omega
          have Hv1 := Lib.hid hv1; have Hv2 := Lib.hid hv2
          clear em hW0 hv1 hv2
          have z_q0 := x_q0.lt
          have c_q0_0 := x_q0.c 0 _ rfl; have f_q0_0 := x_q0.f 0 _ rfl
          have c_q0_1 := x_q0.c 1 _ rfl; have f_q0_1 := x_q0.f 1 _ rfl
          have z_t0 := x_t0.lt
          have c_t0_0 := x_t0.c 0 _ rfl; have f_t0_0 := x_t0.f 0 _ rfl
          have c_t0_1 := x_t0.c 1 _ rfl; have f_t0_1 := x_t0.f 1 _ rfl
          have z_a0 := x_a0.lt
          have c_a0_0 := x_a0.c 0 _ rfl; have f_a0_0 := x_a0.f 0 _ rfl
          have c_a0_1 := x_a0.c 1 _ rfl; have f_a0_1 := x_a0.f 1 _ rfl
          have z_r0 := x_r0.lt
          have c_r0_0 := x_r0.c 0 _ rfl; have f_r0_0 := x_r0.f 0 _ rfl
          have c_r0_1 := x_r0.c 1 _ rfl; have f_r0_1 := x_r0.f 1 _ rfl
          go_wp2_with fail
          refine (rcmp_nm _ uV h3 EM.out).mono ?_
          rintro e w1 ⟨rfl, hb⟩
          have hB1 : Below w.heap.size w w1 := below_thru (by go_grown) hb
          have hs1 : w.heap.size ≤ w1.heap.size := hB1.size
          have x_q1 : Box w1 (w.heap.size + 1 + 1) [.int .u64 (wHi (2 * Q)), .int .u64 (wLo (2 * Q))] := (by refine Box.below ?_ hb; repeat (first | (with_reducible assumption) | (with_reducible refine Box.drew ?_) | (with_reducible refine Box.drewN ?_ _) | ((with_reducible refine Box.new ?_); simp; done) | (with_reducible apply Box.set2) | (with_reducible refine Box.alloc ?_ _) | (with_reducible refine Box.other ?_ (by first | (dsimp only; omega) | omega) _)))
          have z_q1 := x_q1.lt
          have c_q1_0 := x_q1.c 0 _ rfl
          have f_q1_0 := x_q1.f 0 _ rfl
          have c_q1_1 := x_q1.c 1 _ rfl
          have f_q1_1 := x_q1.f 1 _ rfl
          have x_t1 : Box w1 (w.heap.size + 1 + 1 + 1) [.int .u64 (wHi V), .int .u64 (wLo V)] := (by refine Box.below ?_ hb; repeat (first | (with_reducible assumption) | (with_reducible refine Box.drew ?_) | (with_reducible refine Box.drewN ?_ _) | ((with_reducible refine Box.new ?_); simp; done) | (with_reducible apply Box.set2) | (with_reducible refine Box.alloc ?_ _) | (with_reducible refine Box.other ?_ (by first | (dsimp only; omega) | omega) _)))
          have z_t1 := x_t1.lt
          have c_t1_0 := x_t1.c 0 _ rfl
          have f_t1_0 := x_t1.f 0 _ rfl
          have c_t1_1 := x_t1.c 1 _ rfl
          have f_t1_1 := x_t1.f 1 _ rfl
          have x_a1 : Box w1 (w.heap.size) [.int .u64 ah, .int .u64 al] := (by refine Box.below ?_ hb; repeat (first | (with_reducible assumption) | (with_reducible refine Box.drew ?_) | (with_reducible refine Box.drewN ?_ _) | ((with_reducible refine Box.new ?_); simp; done) | (with_reducible apply Box.set2) | (with_reducible refine Box.alloc ?_ _) | (with_reducible refine Box.other ?_ (by first | (dsimp only; omega) | omega) _)))
          have z_a1 := x_a1.lt
          have c_a1_0 := x_a1.c 0 _ rfl
          have f_a1_0 := x_a1.f 0 _ rfl
          have c_a1_1 := x_a1.c 1 _ rfl
          have f_a1_1 := x_a1.f 1 _ rfl
          have x_r1 : Box w1 (w.heap.size + 1) [.int .u64 0, .int .u64 0] := (by refine Box.below ?_ hb; repeat (first | (with_reducible assumption) | (with_reducible refine Box.drew ?_) | (with_reducible refine Box.drewN ?_ _) | ((with_reducible refine Box.new ?_); simp; done) | (with_reducible apply Box.set2) | (with_reducible refine Box.alloc ?_ _) | (with_reducible refine Box.other ?_ (by first | (dsimp only; omega) | omega) _)))
          have z_r1 := x_r1.lt
          have c_r1_0 := x_r1.c 0 _ rfl
          have f_r1_0 := x_r1.f 0 _ rfl
          have c_r1_1 := x_r1.c 1 _ rfl
          have f_r1_1 := x_r1.f 1 _ rfl
          clear hb x_q0 z_q0 c_q0_0 c_q0_1 f_q0_0 f_q0_1 x_t0 z_t0 c_t0_0 c_t0_1 f_t0_0 f_t0_1 x_a0 z_a0 c_a0_0 c_a0_1 f_a0_0 f_a0_1 x_r0 z_r0 c_r0_0 c_r0_1 f_r0_0 f_r0_1
          go_wp2_with fail
          go_roundw
          case rel =>
            refine ⟨k + 1, by omega, by go_num, ?_, ?_, ?_, ?_, ?_⟩
            · rw [(S2.out hlt).1]
              exact x_q1
            · rw [(S2.out hlt).2]
              have y := x_t1
              rw [Hv1.out, Hv2.out] at y
              exact y
            · repeat (first | (with_reducible assumption) | (with_reducible refine Box.drew ?_) | (with_reducible apply Box.set2) | (with_reducible refine Box.alloc ?_ _) | (with_reducible refine Box.other ?_ (by first | (dsimp only; omega) | omega) _))
            · repeat (first | (with_reducible assumption) | (with_reducible refine Box.drew ?_) | (with_reducible apply Box.set2) | (with_reducible refine Box.alloc ?_ _) | (with_reducible refine Box.other ?_ (by first | (dsimp only; omega) | omega) _))
            · go_grown
          case measure => simp [intOf]; omega
    · obtain rfl : k = 128 := by omega
      have E : Hid (qk n d 128 = n / d ∧ rk n d 128 = n % d) := by refine Lib.hid ?_; unfold qk rk; rw [topk_all]; exact ⟨rfl, rfl⟩
      clear sf0 hth htb hQ0 hQ1
      have z_q0 := x_q0.lt
      have c_q0_0 := x_q0.c 0 _ rfl; have f_q0_0 := x_q0.f 0 _ rfl
      have c_q0_1 := x_q0.c 1 _ rfl; have f_q0_1 := x_q0.f 1 _ rfl
      have z_t0 := x_t0.lt
      have c_t0_0 := x_t0.c 0 _ rfl; have f_t0_0 := x_t0.f 0 _ rfl
      have c_t0_1 := x_t0.c 1 _ rfl; have f_t0_1 := x_t0.f 1 _ rfl
      have z_a0 := x_a0.lt
      have c_a0_0 := x_a0.c 0 _ rfl; have f_a0_0 := x_a0.f 0 _ rfl
      have c_a0_1 := x_a0.c 1 _ rfl; have f_a0_1 := x_a0.f 1 _ rfl
      have z_r0 := x_r0.lt
      have c_r0_0 := x_r0.c 0 _ rfl; have f_r0_0 := x_r0.f 0 _ rfl
      have c_r0_1 := x_r0.c 1 _ rfl; have f_r0_1 := x_r0.f 1 _ rfl
      have hs0 : w.heap.size ≤ wr.heap.size := hB0.size
      go_wp2_with fail
      go_region_held3 (fun w' => w'.cell? ⟨w.heap.size + 1 + 1, 0, none⟩ = some (.int .u64 (wHi (qk n d 128))) ∧ w'.cell? ⟨w.heap.size + 1 + 1, 1, none⟩ = some (.int .u64 (wLo (qk n d 128))) ∧ w'.cell? ⟨w.heap.size + 1 + 1 + 1, 1, none⟩ = some (.int .u64 (rk n d 128))) (((repeat' apply And.intro) <;> (first | (go_keep; done) | go_cell))) (fail)
      go_wp2
      rw [← E.out.1, ← E.out.2]
      refine bodyPost_ret (v := .tuple #[.agg #[.int .u64 (wHi (qk n d 128)), .int .u64 (wLo (qk n d 128))], .int .u64 (rk n d 128), .int .i64 0]) (by simp [results, Try.results94, go_sem, c_r0_0, c_r0_1]) rfl ⟨rfl, ?_⟩
      go_grown

end Go.Proofs.Ytmpcpflpcfanjaa
