/-
  The mathematics of IdealNames.
-/
import Derived.Test.YtpccahdbienjeaaIdLaw
import Derived.Test.YtpccahdbienjeaaIdMo
namespace Go.Proofs.Ytpccahdbienjeaa
open Go.RowKit

theorem le255 {n : Int} (h : 0 ≤ n ∧ n ≤ 255) : 0 ≤ n ∧ n ≤ 255 := h
/-- The tokens of the users 0, 1, .. -/
def tkn (k : Nat) : Tk := ⟨⟨0, ((k % 1000 : Nat) : Int), 0, 0, by decide, by omega, by decide, by decide⟩, zeroD, zeroD_len, zeroD_byts⟩
def tks (n : Nat) : List Tk := (List.range n).map tkn
theorem tks_len (n : Nat) : (tks n).length = n := by simp [tks]
theorem tks_succ (n : Nat) : tks (n + 1) = tks n ++ [tkn n] := by unfold tks; rw [List.range_succ, List.map_append]; rfl
theorem tkn_bare {i j : Nat} (hi : i < 1000) (hj : j < 1000) (h : i ≠ j) : (tkn i).bare ≠ (tkn j).bare := fun e => by
  have := congrArg Nums.u (tk_bare_iff.1 e)
  have h2 : ((i % 1000 : Nat) : Int) = ((j % 1000 : Nat) : Int) := this
  omega
theorem tks_get {n i : Nat} {x : Tk} (h : (tks n)[i]? = some x) : i < n ∧ x = tkn i := by
  unfold tks at h
  rw [List.getElem?_map] at h
  cases hr : (List.range n)[i]? with
  | none => rw [hr] at h; cases h
  | some j =>
    rw [hr] at h
    cases h
    have hlt := (List.getElem?_eq_some_iff.1 hr).1
    rw [List.length_range] at hlt
    rw [List.getElem?_range hlt] at hr
    cases hr
    exact ⟨hlt, rfl⟩
theorem tks_mem {n : Nat} {x : Tk} (h : x ∈ tks n) : ∃ i, i < n ∧ x = tkn i := by
  obtain ⟨i, hi⟩ := List.getElem?_of_mem h
  exact ⟨i, tks_get hi⟩
theorem tks_good (n : Nat) : GoodT (tks n) := fun t ht => by
  obtain ⟨i, _, rfl⟩ := tks_mem ht
  show (0 : Int) < 16
  decide
theorem tks_dst {n : Nat} (hn : n ≤ 1000) : DstT (tks n) := fun i j x y hij hj hx hy => by
  obtain ⟨h1, rfl⟩ := tks_get hx
  obtain ⟨h2, rfl⟩ := tks_get hy
  exact tkn_bare (by omega) (by omega) (by omega)
def gone : Cmd := ⟨2, 3, 0, Lm.zero, Lm.zero, Lm.zero, 0, 0, 0, zeroD, by decide, by decide, by decide, by decide, by decide, by decide, zeroD_len, zeroD_byts⟩
def rotd : Cmd := ⟨4, 0, 0, Lm.zero, Lm.zero, Lm.zero, 0, 0, 0, zeroD, by decide, by decide, by decide, by decide, by decide, by decide, zeroD_len, zeroD_byts⟩
theorem set_byts {l : List Int} (h : Byts l) {i : Nat} {n : Int} (hn : 0 ≤ n ∧ n ≤ 255) : Byts (l.set i n) := fun x hx => by
  rcases List.mem_or_eq_of_mem_set hx with g | rfl
  · exact h x g
  · exact hn
def oth : Cmd := { gone with g := zeroD.set 31 1, hg := by rw [List.length_set]; exact zeroD_len, hgb := set_byts zeroD_byts (by decide) }
theorem gone_ok : gone.Ok := ⟨by decide, Or.inr (Or.inr (Or.inl ⟨Or.inl rfl, ⟨rfl, rfl, rfl⟩, rfl, rfl, rfl⟩))⟩
theorem rotd_ok : rotd.Ok := ⟨by decide, Or.inr (Or.inr (Or.inl ⟨Or.inr rfl, ⟨rfl, rfl, rfl⟩, rfl, rfl, rfl⟩))⟩
theorem oth_ok : oth.Ok := ⟨by decide, Or.inr (Or.inr (Or.inl ⟨Or.inl rfl, ⟨rfl, rfl, rfl⟩, rfl, rfl, rfl⟩))⟩
theorem oth_bare : gone.bare = oth.bare := rfl
theorem oth_ne : gone ≠ oth := fun e => by
  have : zeroD = zeroD.set 31 1 := congrArg Cmd.g e
  exact absurd this (by decide)
theorem zcmd_no : ¬ Cmd.zero.Ok := by
  rintro ⟨_, h | h | h | h⟩
  · exact absurd h.1 (by decide)
  · exact absurd h.1 (by decide)
  · rcases h.1 with g | g <;> exact absurd g (by decide)
  · exact absurd h.1 (by decide)
/-- A token of a number of tenant, user and the Tag's first byte. -/
def tkq (t u b : Int) (ht : 0 ≤ t ∧ t ≤ 4294967295) (hu : 0 ≤ u ∧ u ≤ 4294967295) (hb : 0 ≤ b ∧ b ≤ 255) : Tk := ⟨⟨t, u, 0, 0, ht, hu, by decide, by decide⟩, zeroD.set 0 b, by rw [List.length_set]; exact zeroD_len, set_byts zeroD_byts hb⟩
def tkA1 : Tk := tkq 0 1 0 (by decide) (by decide) (by decide)
def tkA2 : Tk := tkq 0 1 1 (by decide) (by decide) (by decide)
def tkT : Tk := tkq 16 0 0 (by decide) (by decide) (by decide)
def tkH : Tk := tkq 0 100 0 (by decide) (by decide) (by decide)
def tkN : Tk := tkq 0 99 0 (by decide) (by decide) (by decide)
theorem dst_nil : DstC [] := fun _ _ _ _ _ h => absurd h (Nat.not_lt_zero _)
theorem dst_one {c : Cmd} : DstC [c] := fun i j _ _ h1 h2 => by simp at h2; omega
theorem chk_k {k : Nat} (h : k ≤ 100) : ChkD (tks k) [] 0 := Or.inr (Or.inr (Or.inr ⟨rfl, by rw [tks_len]; simpa using h, tks_good k, (fun _ h => by cases h), tks_dst (by omega), dst_nil⟩))
theorem chk_g : ChkD (tks 99) [gone] 0 := Or.inr (Or.inr (Or.inr ⟨rfl, by rw [tks_len]; simp, tks_good 99, (fun c h => by rw [List.mem_singleton.1 h]; exact gone_ok), tks_dst (by decide), dst_one⟩))
theorem put_k {k : Nat} (h : k < 99) : PutT (tks k) [] (tkn k) (tks (k + 1)) [] 0 := Or.inr ⟨chk_k (by omega), some (tks (k + 1)), Or.inr ⟨by show (0 : Int) < 16; decide, Or.inr (Or.inr ⟨(fun u hu => by
  obtain ⟨i, hi, rfl⟩ := tks_mem hu
  exact tkn_bare (by omega) (by omega) (by omega)), Or.inr ⟨rfl, by rw [tks_len]; simp; omega, by rw [tks_succ]⟩⟩)⟩, Or.inr ⟨rfl, rfl⟩⟩
theorem put_g : PutC (tks 99) [] gone (tks 99) [gone] 0 := Or.inr ⟨chk_k (by decide), some [gone], Or.inr ⟨gone_ok, Or.inr (Or.inr ⟨(fun _ h => by cases h), Or.inr ⟨rfl, by rw [tks_len]; simp, rfl⟩⟩)⟩, Or.inr ⟨rfl, rfl⟩⟩
theorem put_same : PutC (tks 99) [gone] gone (tks 99) [gone] 0 := Or.inr ⟨chk_g, some [gone], Or.inr ⟨gone_ok, Or.inr (Or.inl ⟨rfl, by simp, rfl⟩)⟩, Or.inr ⟨rfl, rfl⟩⟩
theorem put_h : PutT (tks 99) [gone] tkH [] [] 4 := Or.inr ⟨chk_g, none, Or.inr ⟨by show (0 : Int) < 16; decide, Or.inr (Or.inr ⟨(fun u hu e => by
  obtain ⟨i, hi, rfl⟩ := tks_mem hu
  have := congrArg Nums.u (tk_bare_iff.1 e)
  have h2 : ((i % 1000 : Nat) : Int) = 100 := this
  omega), Or.inl ⟨rfl, by rw [tks_len]; simp, rfl⟩⟩)⟩, Or.inl ⟨rfl, rfl, rfl⟩⟩
theorem put_r : PutC (tks 99) [gone] rotd [] [] 4 := Or.inr ⟨chk_g, none, Or.inr ⟨rotd_ok, Or.inr (Or.inr ⟨(fun u hu e => by
  rw [List.mem_singleton.1 hu] at e
  exact absurd (congrArg Cmd.op e) (by show ¬ (2 : Int) = 4; decide)), Or.inl ⟨rfl, by rw [tks_len]; simp, rfl⟩⟩)⟩, Or.inl ⟨rfl, rfl, rfl⟩⟩
theorem put_o : PutC (tks 99) [gone] oth [] [] 14 := Or.inr ⟨chk_g, none, Or.inr ⟨oth_ok, Or.inl ⟨rfl, ⟨gone, by simp, oth_bare, oth_ne⟩, rfl⟩⟩, Or.inl ⟨rfl, rfl, rfl⟩⟩
theorem put_t : PutT (tks 99) [gone] tkT [] [] 8 := Or.inr ⟨chk_g, none, Or.inl ⟨rfl, by show ¬ (16 : Int) < 16; decide, rfl⟩, Or.inl ⟨rfl, rfl, rfl⟩⟩
theorem put_z : PutC (tks 99) [gone] Cmd.zero [] [] 8 := Or.inr ⟨chk_g, none, Or.inl ⟨rfl, zcmd_no, rfl⟩, Or.inl ⟨rfl, rfl, rfl⟩⟩
theorem acp_z : AcpD (tks 99) [gone] Frm.zero false 8 := Or.inr (Or.inl ⟨rfl, chk_g, Frm.zero_no, rfl⟩)
theorem acp_o : AcpD (tks 99) [gone] (Frm.cmd oth) false 0 := Or.inr (Or.inr ⟨rfl, chk_g, Frm.cmd_ok oth_ok, ⟨fun h => (Bool.false_ne_true h).elim, fun h => absurd ((AccD.of2 rfl).1 h) (fun g => oth_ne (List.mem_singleton.1 g).symm)⟩⟩)
theorem acc_g : Acc (tks 99) [gone] (Frm.cmd gone) := ⟨chk_g, Frm.cmd_ok gone_ok, (AccD.of2 rfl).2 (by show gone ∈ [gone]; simp)⟩
theorem chk_m : ChkD (tks 99 ++ [tkN]) [gone] 4 := chk_many (by rw [List.length_append, tks_len]; decide)
theorem put_m : PutT (tks 99 ++ [tkN]) [gone] tkT [] [] 4 := Or.inl ⟨by decide, chk_m, rfl, rfl⟩
theorem chk_2 : ChkD [tkA1, tkA2] [] 14 := Or.inr (Or.inr (Or.inl ⟨rfl, by decide, (fun t ht => by
  simp at ht
  rcases ht with rfl | rfl <;> (show (0 : Int) < 16; decide)), (fun _ h => by cases h), fun h => h.1 0 1 tkA1 tkA2 (by decide) (by decide) rfl rfl (tk_bare_iff.2 rfl)⟩))
theorem chk_a : ChkD [] [gone, gone] 14 := Or.inr (Or.inr (Or.inl ⟨rfl, by decide, (fun _ h => by cases h), (fun c hc => by
  simp at hc
  rw [hc]; exact gone_ok), fun h => h.2 0 1 gone gone (by decide) (by decide) rfl rfl rfl⟩))
theorem chk_b : ChkD [tkA1, tkA1, tkT] [] 8 := Or.inr (Or.inl ⟨rfl, by decide, fun h => absurd (h.1 tkT (by simp)) (by show ¬ (16 : Int) < 16; decide)⟩)
theorem chk_w : ChkD [] [Cmd.zero] 8 := Or.inr (Or.inl ⟨rfl, by decide, fun h => zcmd_no (h.2 Cmd.zero (by simp))⟩)
theorem acp_2 : AcpD [tkA1, tkA2] [] Frm.zero false 14 := Or.inl ⟨by decide, chk_2, rfl⟩
set_option maxRecDepth 100000 in
theorem bld_tk (n : Int) (h : 0 ≤ n ∧ n ≤ 4294967295) (W : World) : (Instr.build 34 #[(1, .int .u32 n)]).run Try.prog W = .ok (.agg (tkq 0 n 0 (by decide) h (by decide)).v.toArray) W := by kernel_rfl
theorem tkq_k {k : Nat} (hk : k < 1000) : tkq 0 (k : Int) 0 (by decide) (by omega) (by decide) = tkn k := Tk.ext' (Nums.ext' rfl (by show (k : Int) = ((k % 1000 : Nat) : Int); omega) rfl rfl) rfl
set_option maxRecDepth 100000 in
theorem bld_tT (W : World) : (Instr.build 34 #[(0, .int .u32 16)]).run Try.prog W = .ok (.agg tkT.v.toArray) W := by kernel_rfl
set_option maxRecDepth 100000 in
theorem bld_d1 (W : World) : (Instr.build 32 #[(0, .int .u8 1)]).run Try.prog W = .ok (.agg ((zeroD.set 0 1).map (Value.int .u8)).toArray) W := by kernel_rfl
set_option maxRecDepth 100000 in
theorem bld_t2 (W : World) : (Instr.build 34 #[(1, .int .u32 1), (4, .agg ((zeroD.set 0 1).map (Value.int .u8)).toArray)]).run Try.prog W = .ok (.agg tkA2.v.toArray) W := by kernel_rfl
set_option maxRecDepth 100000 in
theorem bld_g (W : World) : (Instr.build 39 #[(0, .int .u8 2), (1, .int .u32 3)]).run Try.prog W = .ok (.agg (ccell gone).toArray) W := by kernel_rfl
set_option maxRecDepth 100000 in
theorem bld_r (W : World) : (Instr.build 39 #[(0, .int .u8 4)]).run Try.prog W = .ok (.agg (ccell rotd).toArray) W := by kernel_rfl
set_option maxRecDepth 100000 in
theorem bld_z (W : World) : (Instr.build 39 #[]).run Try.prog W = .ok (.agg (ccell Cmd.zero).toArray) W := by kernel_rfl
set_option maxRecDepth 100000 in
theorem bld_f (W : World) : (Instr.build 47 #[]).run Try.prog W = .ok (.agg (mcell Frm.zero).toArray) W := by kernel_rfl
theorem bld_it (a : Addr) (n c : Nat) (W : World) : (Instr.build 25 #[(0, .slice (some a) n c)]).run Try.prog W = .ok (.agg #[.slice (some a) n c, .slice none 0 0]) W := by kernel_rfl
theorem bld_ic (a : Addr) (n c : Nat) (W : World) : (Instr.build 25 #[(1, .slice (some a) n c)]).run Try.prog W = .ok (.agg #[.slice none 0 0, .slice (some a) n c]) W := by kernel_rfl
theorem oth_cells : (ccell gone).set 46 (.int .u8 1) = ccell oth := by rfl

end Go.Proofs.Ytpccahdbienjeaa
