/-
  FrameNames: the commands of the examples.
-/
import Derived.Test.YtkpdlbcmnfphmaaRFmD
import Derived.Test.YtkpdlbcmnfphmaaFmO
import Derived.Test.YtkpdlbcmnfphmaaAlive09
namespace Go.Proofs.Ytkpdlbcmnfphmaa
open Go.RowKit

def limA : Lm := ⟨1, 0, 1, by decide, by decide, by decide⟩
def limB : Lm := ⟨1000000000, 1000000000, 1000000000, by decide, by decide, by decide⟩
def limC : Lm := ⟨5, 2, 3, by decide, by decide, by decide⟩
def limO : Lm := ⟨5, 2, 0, by decide, by decide, by decide⟩
def limsV : List Value := limA.v ++ (limB.v ++ limC.v)
def limsO : List Value := limA.v ++ (limB.v ++ limO.v)
def digA9 : List Int := 1 :: List.replicate 31 0
def digB9 : List Int := List.replicate 31 0 ++ [255]
theorem digA9_len : digA9.length = 32 := by decide
theorem digB9_len : digB9.length = 32 := by decide
theorem digA9_byts : Byts digA9 := by show ∀ x ∈ digA9, _; decide
theorem digB9_byts : Byts digB9 := by show ∀ x ∈ digB9, _; decide
def limQ (l : Lm) : Bool := limE l.b l.r l.p == 0
def zerQ (l : Lm) : Bool := l.b == 0 && l.r == 0 && l.p == 0
def capQ (n : Int) : Bool := decide (1 ≤ n) && decide (n ≤ 8)
def okQ (c : Cmd) : Bool := decide (c.t < 16) && ((c.op == 1 && (limQ c.l0 && limQ c.l1 && limQ c.l2) && capQ c.us && capQ c.en && c.u == 0) || (c.op == 3 && (limQ c.l0 && limQ c.l1 && limQ c.l2) && c.us == 0 && c.en == 0 && c.u == 0) || ((c.op == 2 || c.op == 4) && (zerQ c.l0 && zerQ c.l1 && zerQ c.l2) && c.us == 0 && c.en == 0 && c.u == 0) || (c.op == 5 && (zerQ c.l0 && zerQ c.l1 && zerQ c.l2) && c.us == 0 && c.en == 0))
theorem limQ_iff (l : Lm) : limQ l = true ↔ l.ok := by unfold limQ Lm.ok; simp
theorem zerQ_iff (l : Lm) : zerQ l = true ↔ l = Lm.zero := by
  unfold zerQ
  constructor
  · intro h
    simp at h
    exact Lm.ext' h.1.1 h.1.2 h.2
  · rintro rfl
    decide
theorem okQ_iff (c : Cmd) : okQ c = true ↔ c.Ok := by
  unfold okQ Cmd.Ok Cmd.lims Cmd.none Cap
  simp only [Bool.and_eq_true, Bool.or_eq_true, limQ_iff, zerQ_iff, decide_eq_true_eq, beq_iff_eq, capQ]
  constructor
  · rintro ⟨h, ((⟨⟨⟨⟨h1, h2⟩, h3⟩, h4⟩, h5⟩ | ⟨⟨⟨⟨h1, h2⟩, h3⟩, h4⟩, h5⟩) | ⟨⟨⟨⟨h1, h2⟩, h3⟩, h4⟩, h5⟩) | ⟨⟨⟨h1, h2⟩, h3⟩, h4⟩⟩
    · exact ⟨h, Or.inl ⟨h1, ⟨h2.1.1, h2.1.2, h2.2⟩, h3, h4, h5⟩⟩
    · exact ⟨h, Or.inr (Or.inl ⟨h1, ⟨h2.1.1, h2.1.2, h2.2⟩, h3, h4, h5⟩)⟩
    · exact ⟨h, Or.inr (Or.inr (Or.inl ⟨h1, ⟨h2.1.1, h2.1.2, h2.2⟩, h3, h4, h5⟩))⟩
    · exact ⟨h, Or.inr (Or.inr (Or.inr ⟨h1, ⟨h2.1.1, h2.1.2, h2.2⟩, h3, h4⟩))⟩
  · rintro ⟨h, ⟨h1, h2, h3, h4, h5⟩ | ⟨h1, h2, h3, h4, h5⟩ | ⟨h1, h2, h3, h4, h5⟩ | ⟨h1, h2, h3, h4⟩⟩
    · exact ⟨h, Or.inl (Or.inl (Or.inl ⟨⟨⟨⟨h1, ⟨⟨h2.1, h2.2.1⟩, h2.2.2⟩⟩, h3⟩, h4⟩, h5⟩))⟩
    · exact ⟨h, Or.inl (Or.inl (Or.inr ⟨⟨⟨⟨h1, ⟨⟨h2.1, h2.2.1⟩, h2.2.2⟩⟩, h3⟩, h4⟩, h5⟩))⟩
    · exact ⟨h, Or.inl (Or.inr ⟨⟨⟨⟨h1, ⟨⟨h2.1, h2.2.1⟩, h2.2.2⟩⟩, h3⟩, h4⟩, h5⟩)⟩
    · exact ⟨h, Or.inr ⟨⟨⟨h1, ⟨⟨h2.1, h2.2.1⟩, h2.2.2⟩⟩, h3⟩, h4⟩⟩
def fine0 : Cmd := ⟨1, 15, 0, limA, limB, limC, 1, 8, 18446744073709551615, digA9, by decide, by decide, by decide, by decide, by decide, by decide, digA9_len, digA9_byts⟩
def fine1 : Cmd := ⟨2, 0, 0, Lm.zero, Lm.zero, Lm.zero, 0, 0, 0, digB9, by decide, by decide, by decide, by decide, by decide, by decide, digB9_len, digB9_byts⟩
def fine2 : Cmd := ⟨3, 0, 0, limA, limB, limC, 0, 0, 0, zeroD, by decide, by decide, by decide, by decide, by decide, by decide, zeroD_len, zeroD_byts⟩
def fine3 : Cmd := ⟨4, 0, 0, Lm.zero, Lm.zero, Lm.zero, 0, 0, 1, zeroD, by decide, by decide, by decide, by decide, by decide, by decide, zeroD_len, zeroD_byts⟩
def fine4 : Cmd := ⟨5, 0, 4294967295, Lm.zero, Lm.zero, Lm.zero, 0, 0, 0, zeroD, by decide, by decide, by decide, by decide, by decide, by decide, zeroD_len, zeroD_byts⟩
def fine5 : Cmd := ⟨5, 0, 0, Lm.zero, Lm.zero, Lm.zero, 0, 0, 0, zeroD, by decide, by decide, by decide, by decide, by decide, by decide, zeroD_len, zeroD_byts⟩
def bad0 : Cmd := ⟨0, 0, 0, Lm.zero, Lm.zero, Lm.zero, 0, 0, 0, zeroD, by decide, by decide, by decide, by decide, by decide, by decide, zeroD_len, zeroD_byts⟩
def bad1 : Cmd := ⟨6, 0, 0, Lm.zero, Lm.zero, Lm.zero, 0, 0, 0, zeroD, by decide, by decide, by decide, by decide, by decide, by decide, zeroD_len, zeroD_byts⟩
def bad2 : Cmd := ⟨255, 0, 0, Lm.zero, Lm.zero, Lm.zero, 0, 0, 0, zeroD, by decide, by decide, by decide, by decide, by decide, by decide, zeroD_len, zeroD_byts⟩
def bad3 : Cmd := ⟨2, 16, 0, Lm.zero, Lm.zero, Lm.zero, 0, 0, 0, zeroD, by decide, by decide, by decide, by decide, by decide, by decide, zeroD_len, zeroD_byts⟩
def bad4 : Cmd := ⟨1, 0, 0, limA, limB, limC, 0, 0, 0, zeroD, by decide, by decide, by decide, by decide, by decide, by decide, zeroD_len, zeroD_byts⟩
def bad5 : Cmd := ⟨1, 0, 0, limA, limB, limC, 9, 1, 0, zeroD, by decide, by decide, by decide, by decide, by decide, by decide, zeroD_len, zeroD_byts⟩
def bad6 : Cmd := ⟨1, 0, 0, limA, limB, limC, 1, 9, 0, zeroD, by decide, by decide, by decide, by decide, by decide, by decide, zeroD_len, zeroD_byts⟩
def bad7 : Cmd := ⟨1, 0, 1, limA, limB, limC, 1, 1, 0, zeroD, by decide, by decide, by decide, by decide, by decide, by decide, zeroD_len, zeroD_byts⟩
def bad8 : Cmd := ⟨1, 0, 0, limA, limB, limO, 1, 1, 0, zeroD, by decide, by decide, by decide, by decide, by decide, by decide, zeroD_len, zeroD_byts⟩
def bad9 : Cmd := ⟨1, 0, 0, Lm.zero, Lm.zero, Lm.zero, 1, 1, 0, zeroD, by decide, by decide, by decide, by decide, by decide, by decide, zeroD_len, zeroD_byts⟩
def bad10 : Cmd := ⟨2, 0, 1, Lm.zero, Lm.zero, Lm.zero, 0, 0, 0, zeroD, by decide, by decide, by decide, by decide, by decide, by decide, zeroD_len, zeroD_byts⟩
def bad11 : Cmd := ⟨2, 0, 0, Lm.zero, Lm.zero, Lm.zero, 1, 0, 0, zeroD, by decide, by decide, by decide, by decide, by decide, by decide, zeroD_len, zeroD_byts⟩
def bad12 : Cmd := ⟨2, 0, 0, limA, limB, limC, 0, 0, 0, zeroD, by decide, by decide, by decide, by decide, by decide, by decide, zeroD_len, zeroD_byts⟩
def bad13 : Cmd := ⟨3, 0, 0, limA, limB, limO, 0, 0, 0, zeroD, by decide, by decide, by decide, by decide, by decide, by decide, zeroD_len, zeroD_byts⟩
def bad14 : Cmd := ⟨3, 0, 0, limA, limB, limC, 0, 1, 0, zeroD, by decide, by decide, by decide, by decide, by decide, by decide, zeroD_len, zeroD_byts⟩
def bad15 : Cmd := ⟨4, 0, 1, Lm.zero, Lm.zero, Lm.zero, 0, 0, 0, zeroD, by decide, by decide, by decide, by decide, by decide, by decide, zeroD_len, zeroD_byts⟩
def bad16 : Cmd := ⟨4, 0, 0, limA, limB, limC, 0, 0, 0, zeroD, by decide, by decide, by decide, by decide, by decide, by decide, zeroD_len, zeroD_byts⟩
def bad17 : Cmd := ⟨5, 0, 0, Lm.zero, Lm.zero, Lm.zero, 0, 1, 0, zeroD, by decide, by decide, by decide, by decide, by decide, by decide, zeroD_len, zeroD_byts⟩
def bad18 : Cmd := ⟨5, 0, 0, limA, limB, limC, 0, 0, 0, zeroD, by decide, by decide, by decide, by decide, by decide, by decide, zeroD_len, zeroD_byts⟩
def fineC : List Cmd := [fine0, fine1, fine2, fine3, fine4, fine5]
def badC : List Cmd := [bad0, bad1, bad2, bad3, bad4, bad5, bad6, bad7, bad8, bad9, bad10, bad11, bad12, bad13, bad14, bad15, bad16, bad17, bad18]
theorem fineC_ok : ∀ c ∈ fineC, c.Ok := fun c h => (okQ_iff c).1 ((show ∀ c ∈ fineC, okQ c = true from by decide) c h)
theorem badC_no : ∀ c ∈ badC, ¬ c.Ok := fun c h q => by
  have h1 := (show ∀ c ∈ badC, okQ c = false from by decide) c h
  rw [(okQ_iff c).2 q] at h1
  cases h1
def LC : Lay Cmd := ⟨ccell, 47, by decide, ccell_len, fun c => fit_one (fit_cmd c)⟩
theorem flatR_cut {α : Type} {L : Lay α} : ∀ {xs : List α} {i : Nat} {x : α}, xs[i]? = some x → (flatR L xs).drop (i * L.s) = L.f x ++ (flatR L xs).drop ((i + 1) * L.s) := by
  intro xs
  induction xs with
  | nil => intro i x h; simp at h
  | cons b xs ih =>
    intro i x h
    have e : flatR L (b :: xs) = L.f b ++ flatR L xs := by unfold flatR; simp
    rw [e]
    cases i with
    | zero =>
      simp at h
      subst h
      rw [Nat.zero_mul, List.drop_zero, Nat.zero_add, Nat.one_mul, List.drop_left' (L.len b)]
    | succ i =>
      have h1 := ih (by simpa using h)
      have e1 : (i + 1) * L.s = L.s + i * L.s := by rw [Nat.add_mul, Nat.one_mul, Nat.add_comm]
      have e2 : (i + 1 + 1) * L.s = L.s + (i + 1) * L.s := by rw [Nat.add_mul (i + 1), Nat.one_mul, Nat.add_comm]
      rw [e1, e2, ← List.drop_drop, ← List.drop_drop, List.drop_left' (L.len b)]
      exact h1
theorem cmd_at {xs : List Cmd} {i : Nat} {c : Cmd} (h : xs[i]? = some c) : (flatR LC xs).drop (i * 47) = ccell c ++ (flatR LC xs).drop ((i + 1) * 47) := flatR_cut (L := LC) h
theorem parse_self9 {f : Frm} (h : f.Ok) : Parses 12 f.bs f 0 := by
  obtain ⟨G, q, h1, P1⟩ := parse_is f.bs f.bs_byts
  obtain ⟨rfl, rfl⟩ := h1.uniq (Or.inl ⟨rfl, h, rfl⟩)
  exact P1
theorem parse_no9 {bs : List Int} (hb : Byts bs) (h1 : bs.length ≠ 59 ∨ nth bs 0 ≠ 1) (h2 : bs.length ≠ 88 ∨ nth bs 0 ≠ 2) : Parses 12 bs Frm.zero 12 := by
  obtain ⟨G, q, h3, P1⟩ := parse_is bs hb
  rcases h3 with ⟨rfl, h4, h5⟩ | ⟨rfl, rfl, _⟩
  · exfalso
    subst h5
    rcases Frm.ok_two h4 with ⟨_, _, k, e, l⟩ | ⟨_, _, k, e, l⟩
    · rcases h1 with h1 | h1
      · exact h1 l
      · exact h1 (by rw [e]; rfl)
    · rcases h2 with h2 | h2
      · exact h2 l
      · exact h2 (by rw [e, msg_two]; rfl)
  · exact P1
def both9 : Frm := ⟨1, rq9 1 r1b, { Cmd.zero with op := 2, hop := by decide }, by decide⟩
def other9 : Frm := ⟨2, { Req.zero with co := 1, hco := by decide }, fine1, by decide⟩
def three9 : Frm := ⟨3, Req.zero, Cmd.zero, by decide⟩
theorem cmd_ne {c d : Cmd} (h : c.op ≠ d.op) : c ≠ d := fun e => h (by rw [e])
theorem both9_no : ¬ both9.Ok := by
  rintro (⟨_, _, h⟩ | ⟨h, _⟩)
  · exact absurd (congrArg Cmd.op h) (by decide)
  · exact absurd h (by decide)
theorem other9_no : ¬ other9.Ok := by
  rintro (⟨h, _⟩ | ⟨_, h, _⟩)
  · exact absurd h (by decide)
  · exact absurd (congrArg Req.co h) (by decide)
theorem three9_no : ¬ three9.Ok := by
  rintro (⟨h, _⟩ | ⟨h, _⟩) <;> exact absurd h (by decide)
set_option maxRecDepth 100000 in
theorem both9_c : mcell both9 = (mcell (Frm.req (rq9 1 r1b))).set 39 (.int .u8 2) := rfl
set_option maxRecDepth 100000 in
theorem other9_c : mcell other9 = (mcell (Frm.cmd fine1)).set 38 (.int .u32 1) := rfl
set_option maxRecDepth 100000 in
theorem limsO_c : limsO = limsV.set 8 (.int .i64 0) := rfl
def zero9A : List Value := Lm.zero.v ++ (Lm.zero.v ++ Lm.zero.v)
set_option maxRecDepth 100000 in
theorem sizeA9 : (Try.prog.info? 25).map (·.size) = some 9 := by kernel_rfl
theorem limsV_one : limsV.toArray.all (·.oneCell') = true := all_oneCell_toArray (fit_one (Fit.app (fit_lim limA) (Fit.app (fit_lim limB) (fit_lim limC))))
set_option maxRecDepth 100000 in
theorem three9_b (W : World) : (Instr.build 43 #[(0, .int .u8 3)]).run Try.prog W = .ok (.agg (mcell three9).toArray) W := by kernel_rfl
set_option maxRecDepth 100000 in
theorem zero9_b (W : World) : (Instr.build 43 #[]).run Try.prog W = .ok (.agg (mcell Frm.zero).toArray) W := by kernel_rfl
set_option maxRecDepth 100000 in
theorem dgA9_b (W : World) : (Instr.build 29 #[(0, .int .u8 1)]).run Try.prog W = .ok (.agg (digA9.map (Value.int .u8)).toArray) W := by kernel_rfl
set_option maxRecDepth 100000 in
theorem dgB9_b (W : World) : (Instr.build 29 #[(31, .int .u8 255)]).run Try.prog W = .ok (.agg (digB9.map (Value.int .u8)).toArray) W := by kernel_rfl
set_option maxRecDepth 100000 in
theorem info_cmd9 : (Try.prog.info? 31).map (fun i => (i.zero, i.size, i.bytes)) = some (some (.agg (ccell Cmd.zero).toArray), 47, 136) := by kernel_rfl
set_option maxRecDepth 100000 in
theorem lim9_b0 (W : World) : (Instr.build 24 #[(0, .int .i64 1), (1, .int .i64 0), (2, .int .i64 1)]).run Try.prog W = .ok (.agg limA.v.toArray) W := by kernel_rfl
set_option maxRecDepth 100000 in
theorem lim9_b1 (W : World) : (Instr.build 24 #[(0, .int .i64 1000000000), (1, .int .i64 1000000000), (2, .int .i64 1000000000)]).run Try.prog W = .ok (.agg limB.v.toArray) W := by kernel_rfl
set_option maxRecDepth 100000 in
theorem lim9_b2 (W : World) : (Instr.build 24 #[(0, .int .i64 5), (1, .int .i64 2), (2, .int .i64 3)]).run Try.prog W = .ok (.agg limC.v.toArray) W := by kernel_rfl
set_option maxRecDepth 100000 in
theorem lim9_b3 (W : World) : (Instr.build 25 #[(0, .agg limA.v.toArray), (1, .agg limB.v.toArray), (2, .agg limC.v.toArray)]).run Try.prog W = .ok (.agg limsV.toArray) W := by kernel_rfl
set_option maxRecDepth 100000 in
set_option maxHeartbeats 3200000 in
theorem limits9_is (w : World) : Calls Try.prog 9 #[] w fun e w' => e = .returned (.agg limsV.toArray) ∧ Below w.heap.size w w' := by
  have B0 := fun W => lim9_b0 W; have B1 := fun W => lim9_b1 W; have B2 := fun W => lim9_b2 W; have B3 := fun W => lim9_b3 W
  obtain ⟨A, hA⟩ : ∃ V, limA.v = V := ⟨_, rfl⟩; obtain ⟨B, hB⟩ : ∃ V, limB.v = V := ⟨_, rfl⟩; obtain ⟨C, hC⟩ : ∃ V, limC.v = V := ⟨_, rfl⟩; obtain ⟨D, hD⟩ : ∃ V, limsV = V := ⟨_, rfl⟩
  have SA : Hid ((Try.prog.info? 25).map (·.size) = some limsV.length) := Lib.hid sizeA9; have LA : Hid (zero9A.length = limsV.length) := Lib.hid rfl; have OA := Lib.hid limsV_one
  rw [hA] at B0 B3; rw [hB] at B1 B3; rw [hC] at B2 B3; rw [hD] at B3 SA LA OA ⊢
  clear hA hB hC hD
  go_enter Try.func9, Try.ntmps9
  go_upto_region 1 with fail
  refine F_gen (F := fun W => Code.wp _ _ _ _ W) (J := fun W => Box W (w.heap.size) zero9A ∧ Below w.heap.size w W) (And.intro (Box.newc rfl rfl) (by go_grown)) ?_
  intro w0 ⟨e_r, hB0⟩
  have hs0 := hB0.size
  go_wp2_with (first | (refine wpList_build9 rfl 24 _ rfl (us := #[(0, .int .i64 1), (1, .int .i64 0), (2, .int .i64 1)]) (by rfl) (B0 _) ?_) | (refine wpList_build9 rfl 24 _ rfl (us := #[(0, .int .i64 1000000000), (1, .int .i64 1000000000), (2, .int .i64 1000000000)]) (by rfl) (B1 _) ?_) | (refine wpList_build9 rfl 24 _ rfl (us := #[(0, .int .i64 5), (1, .int .i64 2), (2, .int .i64 3)]) (by rfl) (B2 _) ?_) | (refine wpList_build9 rfl 25 _ rfl (us := #[(0, .agg A.toArray), (1, .agg B.toArray), (2, .agg C.toArray)]) (by rfl) (B3 _) ?_) | (refine wpList_store_box (cs := D) rfl _ _ _ rfl e_r rfl rfl SA.out LA.out OA.out ?_; intro W1 hW1))
  exact bodyPost_ret (results_box Try.results9 hW1.box rfl Try.underlying25 rfl SA.out) rfl ⟨rfl, hW1.below _ _ (by omega) hB0⟩
set_option maxRecDepth 100000 in
theorem fine0_b (W : World) : (Instr.build 31 #[(0, .int .u8 1), (1, .int .u32 15), (3, .agg limsV.toArray), (4, .int .u8 1), (5, .int .u8 8), (6, .int .u64 18446744073709551615), (7, .agg (digA9.map (Value.int .u8)).toArray)]).run Try.prog W = .ok (.agg (ccell fine0).toArray) W := by kernel_rfl
set_option maxRecDepth 100000 in
theorem fine1_b (W : World) : (Instr.build 31 #[(0, .int .u8 2), (7, .agg (digB9.map (Value.int .u8)).toArray)]).run Try.prog W = .ok (.agg (ccell fine1).toArray) W := by kernel_rfl
set_option maxRecDepth 100000 in
theorem fine2_b (W : World) : (Instr.build 31 #[(0, .int .u8 3), (3, .agg limsV.toArray)]).run Try.prog W = .ok (.agg (ccell fine2).toArray) W := by kernel_rfl
set_option maxRecDepth 100000 in
theorem fine3_b (W : World) : (Instr.build 31 #[(0, .int .u8 4), (6, .int .u64 1)]).run Try.prog W = .ok (.agg (ccell fine3).toArray) W := by kernel_rfl
set_option maxRecDepth 100000 in
theorem fine4_b (W : World) : (Instr.build 31 #[(0, .int .u8 5), (2, .int .u32 4294967295)]).run Try.prog W = .ok (.agg (ccell fine4).toArray) W := by kernel_rfl
set_option maxRecDepth 100000 in
theorem fine5_b (W : World) : (Instr.build 31 #[(0, .int .u8 5)]).run Try.prog W = .ok (.agg (ccell fine5).toArray) W := by kernel_rfl
set_option maxRecDepth 100000 in
theorem bad0_b (W : World) : (Instr.build 31 #[]).run Try.prog W = .ok (.agg (ccell bad0).toArray) W := by kernel_rfl
set_option maxRecDepth 100000 in
theorem bad1_b (W : World) : (Instr.build 31 #[(0, .int .u8 6)]).run Try.prog W = .ok (.agg (ccell bad1).toArray) W := by kernel_rfl
set_option maxRecDepth 100000 in
theorem bad2_b (W : World) : (Instr.build 31 #[(0, .int .u8 255)]).run Try.prog W = .ok (.agg (ccell bad2).toArray) W := by kernel_rfl
set_option maxRecDepth 100000 in
theorem bad3_b (W : World) : (Instr.build 31 #[(0, .int .u8 2), (1, .int .u32 16)]).run Try.prog W = .ok (.agg (ccell bad3).toArray) W := by kernel_rfl
set_option maxRecDepth 100000 in
theorem bad4_b (W : World) : (Instr.build 31 #[(0, .int .u8 1), (3, .agg limsV.toArray)]).run Try.prog W = .ok (.agg (ccell bad4).toArray) W := by kernel_rfl
set_option maxRecDepth 100000 in
theorem bad5_b (W : World) : (Instr.build 31 #[(0, .int .u8 1), (3, .agg limsV.toArray), (4, .int .u8 9), (5, .int .u8 1)]).run Try.prog W = .ok (.agg (ccell bad5).toArray) W := by kernel_rfl
set_option maxRecDepth 100000 in
theorem bad6_b (W : World) : (Instr.build 31 #[(0, .int .u8 1), (3, .agg limsV.toArray), (4, .int .u8 1), (5, .int .u8 9)]).run Try.prog W = .ok (.agg (ccell bad6).toArray) W := by kernel_rfl
set_option maxRecDepth 100000 in
theorem bad7_b (W : World) : (Instr.build 31 #[(0, .int .u8 1), (3, .agg limsV.toArray), (4, .int .u8 1), (5, .int .u8 1), (2, .int .u32 1)]).run Try.prog W = .ok (.agg (ccell bad7).toArray) W := by kernel_rfl
set_option maxRecDepth 100000 in
theorem bad8_b (W : World) : (Instr.build 31 #[(0, .int .u8 1), (3, .agg limsO.toArray), (4, .int .u8 1), (5, .int .u8 1)]).run Try.prog W = .ok (.agg (ccell bad8).toArray) W := by kernel_rfl
set_option maxRecDepth 100000 in
theorem bad9_b (W : World) : (Instr.build 31 #[(0, .int .u8 1), (4, .int .u8 1), (5, .int .u8 1)]).run Try.prog W = .ok (.agg (ccell bad9).toArray) W := by kernel_rfl
set_option maxRecDepth 100000 in
theorem bad10_b (W : World) : (Instr.build 31 #[(0, .int .u8 2), (2, .int .u32 1)]).run Try.prog W = .ok (.agg (ccell bad10).toArray) W := by kernel_rfl
set_option maxRecDepth 100000 in
theorem bad11_b (W : World) : (Instr.build 31 #[(0, .int .u8 2), (4, .int .u8 1)]).run Try.prog W = .ok (.agg (ccell bad11).toArray) W := by kernel_rfl
set_option maxRecDepth 100000 in
theorem bad12_b (W : World) : (Instr.build 31 #[(0, .int .u8 2), (3, .agg limsV.toArray)]).run Try.prog W = .ok (.agg (ccell bad12).toArray) W := by kernel_rfl
set_option maxRecDepth 100000 in
theorem bad13_b (W : World) : (Instr.build 31 #[(0, .int .u8 3), (3, .agg limsO.toArray)]).run Try.prog W = .ok (.agg (ccell bad13).toArray) W := by kernel_rfl
set_option maxRecDepth 100000 in
theorem bad14_b (W : World) : (Instr.build 31 #[(0, .int .u8 3), (3, .agg limsV.toArray), (5, .int .u8 1)]).run Try.prog W = .ok (.agg (ccell bad14).toArray) W := by kernel_rfl
set_option maxRecDepth 100000 in
theorem bad15_b (W : World) : (Instr.build 31 #[(0, .int .u8 4), (2, .int .u32 1)]).run Try.prog W = .ok (.agg (ccell bad15).toArray) W := by kernel_rfl
set_option maxRecDepth 100000 in
theorem bad16_b (W : World) : (Instr.build 31 #[(0, .int .u8 4), (3, .agg limsV.toArray)]).run Try.prog W = .ok (.agg (ccell bad16).toArray) W := by kernel_rfl
set_option maxRecDepth 100000 in
theorem bad17_b (W : World) : (Instr.build 31 #[(0, .int .u8 5), (5, .int .u8 1)]).run Try.prog W = .ok (.agg (ccell bad17).toArray) W := by kernel_rfl
set_option maxRecDepth 100000 in
theorem bad18_b (W : World) : (Instr.build 31 #[(0, .int .u8 5), (3, .agg limsV.toArray)]).run Try.prog W = .ok (.agg (ccell bad18).toArray) W := by kernel_rfl

end Go.Proofs.Ytkpdlbcmnfphmaa
