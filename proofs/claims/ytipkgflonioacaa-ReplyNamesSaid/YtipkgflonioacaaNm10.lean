/-
  ReplyNames: its replies.
-/
import Derived.Test.YtipkgflonioacaaAlive10
namespace Go.Proofs.Ytipkgflonioacaa
open Go.RowKit

def okR (r : Rep) : Bool := (decide (r.c = 2) && decide (r.t < 16) && decide (r.a ≤ 1000000000) && decide (r.b ≤ 1000000000) && decide (r.d ≤ 1000000000) && decide (r.x = 0)) || (decide (r.c = 3) && decide (r.t < 16) && decide (r.a ≤ 1000000000) && decide (r.b ≤ 1000000000) && decide (r.d ≤ 1000000000) && decide (1 ≤ r.x)) ||
  (decide (Sole r.c) && decide (r.t = 0) && decide (r.a = 0) && decide (r.b = 0) && decide (r.d = 0) && decide (r.x = 0))
theorem okR_iff (r : Rep) : okR r = true ↔ r.Ok := by
  unfold okR Rep.Ok Rep.Ans Rep.Low Rep.Bare
  have e : r = r.alone ↔ (r.t = 0 ∧ r.a = 0 ∧ r.b = 0 ∧ r.d = 0 ∧ r.x = 0) := by
    constructor
    · intro h
      exact ⟨congrArg Rep.t h, congrArg Rep.a h, congrArg Rep.b h, congrArg Rep.d h, congrArg Rep.x h⟩
    · rintro ⟨h1, h2, h3, h4, h5⟩
      exact Rep.ext' rfl h1 h2 h3 h4 h5
  rw [e]
  simp only [Bool.or_eq_true, Bool.and_eq_true, decide_eq_true_eq, and_assoc, or_assoc]
def fineR0 : Rep := ⟨2, 0, 0, 0, 0, 0, by decide, by decide, by decide, by decide, by decide, by decide⟩
def fineR1 : Rep := ⟨2, 15, 1000000000, 1000000000, 1000000000, 0, by decide, by decide, by decide, by decide, by decide, by decide⟩
def fineR2 : Rep := ⟨3, 0, 0, 0, 0, 1, by decide, by decide, by decide, by decide, by decide, by decide⟩
def fineR3 : Rep := ⟨3, 15, 0, 0, 0, 18446744073709551615, by decide, by decide, by decide, by decide, by decide, by decide⟩
def fineR4 : Rep := ⟨8, 0, 0, 0, 0, 0, by decide, by decide, by decide, by decide, by decide, by decide⟩
def badR0 : Rep := ⟨0, 0, 0, 0, 0, 0, by decide, by decide, by decide, by decide, by decide, by decide⟩
def badR1 : Rep := ⟨9, 0, 0, 0, 0, 0, by decide, by decide, by decide, by decide, by decide, by decide⟩
def badR2 : Rep := ⟨255, 0, 0, 0, 0, 0, by decide, by decide, by decide, by decide, by decide, by decide⟩
def badR3 : Rep := ⟨2, 0, 0, 0, 0, 1, by decide, by decide, by decide, by decide, by decide, by decide⟩
def badR4 : Rep := ⟨3, 0, 0, 0, 0, 0, by decide, by decide, by decide, by decide, by decide, by decide⟩
def badR5 : Rep := ⟨2, 16, 0, 0, 0, 0, by decide, by decide, by decide, by decide, by decide, by decide⟩
def badR6 : Rep := ⟨3, 4294967295, 0, 0, 0, 1, by decide, by decide, by decide, by decide, by decide, by decide⟩
def badR7 : Rep := ⟨2, 0, 0, 0, 1000000001, 0, by decide, by decide, by decide, by decide, by decide, by decide⟩
def badR8 : Rep := ⟨3, 0, 4294967295, 0, 0, 2, by decide, by decide, by decide, by decide, by decide, by decide⟩
def badR9 : Rep := ⟨1, 1, 0, 0, 0, 0, by decide, by decide, by decide, by decide, by decide, by decide⟩
def badR10 : Rep := ⟨4, 0, 0, 0, 0, 1, by decide, by decide, by decide, by decide, by decide, by decide⟩
def badR11 : Rep := ⟨5, 0, 0, 1, 0, 0, by decide, by decide, by decide, by decide, by decide, by decide⟩
def fineR : List Rep := [fineR0, fineR1, fineR2, fineR3, fineR4]
def badR : List Rep := [badR0, badR1, badR2, badR3, badR4, badR5, badR6, badR7, badR8, badR9, badR10, badR11]
theorem fineR_ok : ∀ r ∈ fineR, r.Ok := fun r h => (okR_iff r).1 ((show ∀ r ∈ fineR, okR r = true from by decide) r h)
theorem badR_no : ∀ r ∈ badR, ¬ r.Ok := fun r h q => by
  have h1 := (show ∀ r ∈ badR, okR r = false from by decide) r h
  rw [(okR_iff r).2 q] at h1
  cases h1
def LP : Lay Rep := ⟨Rep.v, 6, by decide, fun _ => rfl, fun r => fit_one (fit_rep r)⟩
theorem rep_at {xs : List Rep} {i : Nat} {r : Rep} (h : xs[i]? = some r) : ∃ R, (flatR LP xs).drop (i * 6) = r.v ++ R := by
  obtain ⟨A, C, e, l⟩ := flatR_at1 (L := LP) h
  exact ⟨C, by rw [e, List.drop_left' (show A.length = i * 6 from l)]; rfl⟩
set_option maxRecDepth 100000 in
theorem info_rep : (Try.prog.info? 26).map (fun i => (i.zero, i.size, i.bytes)) = some (some (.agg Rep.zero.v.toArray), 6, 32) := by kernel_rfl
set_option maxRecDepth 100000 in
theorem fineR0_b (W : World) : (Instr.build 26 #[(0, .int .u8 2)]).run Try.prog W = .ok (.agg fineR0.v.toArray) W := by kernel_rfl
set_option maxRecDepth 100000 in
theorem fineR1_b (W : World) : (Instr.build 26 #[(0, .int .u8 2), (1, .int .u32 15), (2, .agg #[.int .u32 1000000000, .int .u32 1000000000, .int .u32 1000000000])]).run Try.prog W = .ok (.agg fineR1.v.toArray) W := by kernel_rfl
set_option maxRecDepth 100000 in
theorem fineR1_l (W : World) : (Instr.build 23 #[(0, .int .u32 1000000000), (1, .int .u32 1000000000), (2, .int .u32 1000000000)]).run Try.prog W = .ok (.agg #[.int .u32 1000000000, .int .u32 1000000000, .int .u32 1000000000]) W := by kernel_rfl
set_option maxRecDepth 100000 in
theorem fineR2_b (W : World) : (Instr.build 26 #[(0, .int .u8 3), (3, .int .u64 1)]).run Try.prog W = .ok (.agg fineR2.v.toArray) W := by kernel_rfl
set_option maxRecDepth 100000 in
theorem fineR3_b (W : World) : (Instr.build 26 #[(0, .int .u8 3), (3, .int .u64 18446744073709551615), (1, .int .u32 15)]).run Try.prog W = .ok (.agg fineR3.v.toArray) W := by kernel_rfl
set_option maxRecDepth 100000 in
theorem fineR4_b (W : World) : (Instr.build 26 #[(0, .int .u8 8)]).run Try.prog W = .ok (.agg fineR4.v.toArray) W := by kernel_rfl
set_option maxRecDepth 100000 in
theorem badR0_b (W : World) : (Instr.build 26 #[]).run Try.prog W = .ok (.agg badR0.v.toArray) W := by kernel_rfl
set_option maxRecDepth 100000 in
theorem badR1_b (W : World) : (Instr.build 26 #[(0, .int .u8 9)]).run Try.prog W = .ok (.agg badR1.v.toArray) W := by kernel_rfl
set_option maxRecDepth 100000 in
theorem badR2_b (W : World) : (Instr.build 26 #[(0, .int .u8 255)]).run Try.prog W = .ok (.agg badR2.v.toArray) W := by kernel_rfl
set_option maxRecDepth 100000 in
theorem badR3_b (W : World) : (Instr.build 26 #[(0, .int .u8 2), (3, .int .u64 1)]).run Try.prog W = .ok (.agg badR3.v.toArray) W := by kernel_rfl
set_option maxRecDepth 100000 in
theorem badR4_b (W : World) : (Instr.build 26 #[(0, .int .u8 3)]).run Try.prog W = .ok (.agg badR4.v.toArray) W := by kernel_rfl
set_option maxRecDepth 100000 in
theorem badR5_b (W : World) : (Instr.build 26 #[(0, .int .u8 2), (1, .int .u32 16)]).run Try.prog W = .ok (.agg badR5.v.toArray) W := by kernel_rfl
set_option maxRecDepth 100000 in
theorem badR6_b (W : World) : (Instr.build 26 #[(0, .int .u8 3), (3, .int .u64 1), (1, .int .u32 4294967295)]).run Try.prog W = .ok (.agg badR6.v.toArray) W := by kernel_rfl
set_option maxRecDepth 100000 in
theorem badR7_b (W : World) : (Instr.build 26 #[(0, .int .u8 2), (2, .agg #[.int .u32 0, .int .u32 0, .int .u32 1000000001])]).run Try.prog W = .ok (.agg badR7.v.toArray) W := by kernel_rfl
set_option maxRecDepth 100000 in
theorem badR7_l (W : World) : (Instr.build 23 #[(0, .int .u32 0), (1, .int .u32 0), (2, .int .u32 1000000001)]).run Try.prog W = .ok (.agg #[.int .u32 0, .int .u32 0, .int .u32 1000000001]) W := by kernel_rfl
set_option maxRecDepth 100000 in
theorem badR8_b (W : World) : (Instr.build 26 #[(0, .int .u8 3), (3, .int .u64 2), (2, .agg #[.int .u32 4294967295, .int .u32 0, .int .u32 0])]).run Try.prog W = .ok (.agg badR8.v.toArray) W := by kernel_rfl
set_option maxRecDepth 100000 in
theorem badR8_l (W : World) : (Instr.build 23 #[(0, .int .u32 4294967295)]).run Try.prog W = .ok (.agg #[.int .u32 4294967295, .int .u32 0, .int .u32 0]) W := by kernel_rfl
set_option maxRecDepth 100000 in
theorem badR9_b (W : World) : (Instr.build 26 #[(0, .int .u8 1), (1, .int .u32 1)]).run Try.prog W = .ok (.agg badR9.v.toArray) W := by kernel_rfl
set_option maxRecDepth 100000 in
theorem badR10_b (W : World) : (Instr.build 26 #[(0, .int .u8 4), (3, .int .u64 1)]).run Try.prog W = .ok (.agg badR10.v.toArray) W := by kernel_rfl
set_option maxRecDepth 100000 in
theorem badR11_b (W : World) : (Instr.build 26 #[(0, .int .u8 5), (2, .agg #[.int .u32 0, .int .u32 1, .int .u32 0])]).run Try.prog W = .ok (.agg badR11.v.toArray) W := by kernel_rfl
set_option maxRecDepth 100000 in
theorem badR11_l (W : World) : (Instr.build 23 #[(0, .int .u32 0), (1, .int .u32 1)]).run Try.prog W = .ok (.agg #[.int .u32 0, .int .u32 1, .int .u32 0]) W := by kernel_rfl
/-- An operation by the slot that it writes: an arm for it alone. -/
theorem at_dst {P : Program} {ops : Array Oper} {rest : List Oper} {o : Oper} {a : Act} {w : World} {Q : Exit → Act → World → Prop} (d : Nat) (hd : o.dst = some d) (h : wpList P ops Q (o :: rest) a w) : wpList P ops Q (o :: rest) a w := by
  have _ := hd
  exact h
/-- Bytes without a reply. -/
theorem no_len {bs : List Int} (h : bs.length ≠ 32) : PParse bs Rep.zero 12 := Or.inr ⟨rfl, rfl, fun F _ e => h (by rw [← e]; exact F.bs_len)⟩
theorem no_first {bs : List Int} (h : nth bs 0 = 0) : PParse bs Rep.zero 12 := Or.inr ⟨rfl, rfl, fun F hF e => by
  have h1 := (Rep.ok_code hF).1
  have h2 : nth F.bs 0 = F.c := rfl
  rw [e, h] at h2
  omega⟩
theorem no_second {bs : List Int} (h : nth bs 1 ≠ 0) : PParse bs Rep.zero 12 := Or.inr ⟨rfl, rfl, fun F _ e => h (by rw [← e]; rfl)⟩
theorem no_last {bs : List Int} (h : nth bs 31 ≠ 0) : PParse bs Rep.zero 12 := Or.inr ⟨rfl, rfl, fun F _ e => h (by
  rw [← e]
  exact nth_mid (pre := (F.c :: 0 :: 0 :: 0 :: be 4 F.t) ++ be 4 F.a ++ be 4 F.b ++ be 4 F.d ++ be 8 F.x) (post := [0, 0, 0, 0]) (k := 28) (by unfold Rep.bs; simp) (by simp [be_len]) 3)⟩
def gbx : List Int := gb10.set 1 1
def gby : List Int := gb10.set 31 1
theorem gb10_byts : Byts gb10 := show ∀ x ∈ gb10, 0 ≤ x ∧ x ≤ 255 from by decide
theorem gbx_byts : Byts gbx := show ∀ x ∈ gbx, 0 ≤ x ∧ x ≤ 255 from by decide
theorem gby_byts : Byts gby := show ∀ x ∈ gby, 0 ≤ x ∧ x ≤ 255 from by decide
theorem wt10_byts : Byts wt10 := show ∀ x ∈ wt10, 0 ≤ x ∧ x ≤ 255 from by decide
theorem z1_byts : Byts [0] := show ∀ x ∈ [(0 : Int)], 0 ≤ x ∧ x ≤ 255 from by decide

end Go.Proofs.Ytipkgflonioacaa
