/-
  Commands, requests and frames: numbers, cells, bytes; what is valid: plain mathematics.
-/
import Derived.Test.YtkpdlbcmnfphmaaGP4
import Derived.Test.YtkpdlbcmnfphmaaGP1
namespace Go.Proofs.Ytkpdlbcmnfphmaa

/-- Numbers of these widths. -/
def InW : List Nat → List Int → Prop
  | [], [] => True
  | w :: ws, n :: ns => (0 ≤ n ∧ n < 256 ^ w) ∧ InW ws ns
  | _, _ => False
/-- Their bytes, one behind the other. -/
def beL : List Nat → List Int → List Int
  | w :: ws, n :: ns => be w n ++ beL ws ns
  | _, _ => []
theorem beL_byts : ∀ (ws : List Nat) (ns : List Int), Byts (beL ws ns)
  | [], _ => Byts.nil
  | _ :: _, [] => Byts.nil
  | w :: ws, n :: ns => (be_byts w n).append (beL_byts ws ns)
theorem beL_len : ∀ {ws : List Nat} {ns : List Int}, InW ws ns → (beL ws ns).length = ws.sum
  | [], [], _ => rfl
  | w :: ws, n :: ns, h => by
    unfold beL
    rw [List.length_append, be_len, beL_len h.2]
    rfl
  | [], _ :: _, h => h.elim
  | _ :: _, [], h => h.elim
theorem beL_inj : ∀ {ws : List Nat} {ns ms : List Int} {xs ys : List Int}, InW ws ns → InW ws ms → beL ws ns ++ xs = beL ws ms ++ ys → ns = ms ∧ xs = ys
  | [], [], [], _, _, _, _, h => ⟨rfl, h⟩
  | w :: ws, n :: ns, m :: ms, xs, ys, h1, h2, h => by
    unfold beL at h
    rw [List.append_assoc, List.append_assoc] at h
    obtain ⟨e1, e2⟩ := List.append_inj h (by rw [be_len, be_len])
    obtain ⟨e3, e4⟩ := beL_inj h1.2 h2.2 e2
    have := congrArg num e1
    rw [num_be w n h1.1.1 h1.1.2, num_be w m h2.1.1 h2.1.2] at this
    exact ⟨by rw [this, e3], e4⟩
  | [], _ :: _, _, _, _, h, _, _ => h.elim
  | [], [], _ :: _, _, _, _, h, _ => h.elim
  | _ :: _, [], _, _, _, h, _, _ => h.elim
  | _ :: _, _ :: _, [], _, _, _, h, _ => h.elim
/-- Bytes cut into numbers. -/
theorem bytes_cut : ∀ (ws : List Nat) (m : Nat) (bs : List Int), bs.length = ws.sum + m → Byts bs → ∃ ns rest, InW ws ns ∧ bs = beL ws ns ++ rest ∧ rest.length = m ∧ Byts rest
  | [], m, bs, hl, hb => ⟨[], bs, trivial, rfl, by simpa using hl, hb⟩
  | w :: ws, m, bs, hl, hb => by
    rw [List.sum_cons] at hl
    have h1 : (bs.take w).length = w := by rw [List.length_take]; omega
    obtain ⟨ns, rest, i1, i2, i3, i4⟩ := bytes_cut ws m (bs.drop w) (by rw [List.length_drop]; omega) (hb.drop w)
    refine ⟨num (bs.take w) :: ns, rest, ⟨num_bound w _ h1 (hb.take w), i1⟩, ?_, i3, i4⟩
    unfold beL
    rw [be_num w _ h1 (hb.take w), List.append_assoc, ← i2, List.take_append_drop]

/-- A limit, as it is held. -/
structure Lm where
  b : Int
  r : Int
  p : Int
  hb : -9223372036854775808 ≤ b ∧ b ≤ 9223372036854775807
  hr : -9223372036854775808 ≤ r ∧ r ≤ 9223372036854775807
  hp : -9223372036854775808 ≤ p ∧ p ≤ 9223372036854775807
theorem Lm.ext' {l m : Lm} (h1 : l.b = m.b) (h2 : l.r = m.r) (h3 : l.p = m.p) : l = m := by
  cases l; cases m; simp_all
def Lm.zero : Lm := ⟨0, 0, 0, by decide, by decide, by decide⟩
def Lm.ok (l : Lm) : Prop := limE l.b l.r l.p = 0
/-- Its numbers are words. -/
def Lm.wd (l : Lm) : Prop := (0 ≤ l.b ∧ l.b ≤ 4294967295) ∧ (0 ≤ l.r ∧ l.r ≤ 4294967295) ∧ (0 ≤ l.p ∧ l.p ≤ 4294967295)
theorem Lm.ok_in {l : Lm} (h : l.ok) : 1 ≤ l.b ∧ l.b ≤ 1000000000 ∧ 0 ≤ l.r ∧ l.r ≤ 1000000000 ∧ 1 ≤ l.p ∧ l.p ≤ 1000000000 := by
  unfold Lm.ok limE at h
  split at h
  · assumption
  · omega
theorem Lm.ok_wd {l : Lm} (h : l.ok) : l.wd := by
  have := Lm.ok_in h
  unfold Lm.wd
  omega
theorem Lm.zero_wd : Lm.zero.wd := by unfold Lm.wd; decide
theorem Lm.not_ok {l : Lm} (h : ¬ l.ok) : limE l.b l.r l.p = 8 := by
  unfold Lm.ok at h
  rcases limE_two l.b l.r l.p with q | q
  · exact absurd q h
  · exact q
theorem Lm.zero_no : ¬ Lm.zero.ok := by unfold Lm.ok; decide

/-- A command, as it is held. -/
structure Cmd where
  op : Int
  t : Int
  u : Int
  l0 : Lm
  l1 : Lm
  l2 : Lm
  us : Int
  en : Int
  x : Int
  g : List Int
  hop : 0 ≤ op ∧ op ≤ 255
  ht : 0 ≤ t ∧ t ≤ 4294967295
  hu : 0 ≤ u ∧ u ≤ 4294967295
  hus : 0 ≤ us ∧ us ≤ 255
  hen : 0 ≤ en ∧ en ≤ 255
  hx : 0 ≤ x ∧ x ≤ 18446744073709551615
  hg : g.length = 32
  hgb : Byts g
theorem Cmd.ext' {c d : Cmd} (h1 : c.op = d.op) (h2 : c.t = d.t) (h3 : c.u = d.u) (h4 : c.l0 = d.l0) (h5 : c.l1 = d.l1) (h6 : c.l2 = d.l2) (h7 : c.us = d.us) (h8 : c.en = d.en) (h9 : c.x = d.x) (h10 : c.g = d.g) : c = d := by
  cases c; cases d; simp_all
theorem zeroD_len : zeroD.length = 32 := by decide
theorem zeroD_byts : Byts zeroD := Fd.zero.hd
def Cmd.zero : Cmd := ⟨0, 0, 0, Lm.zero, Lm.zero, Lm.zero, 0, 0, 0, zeroD, by decide, by decide, by decide, by decide, by decide, by decide, zeroD_len, zeroD_byts⟩
/-- What a command's Op uses of it. -/
def Cmd.only (c : Cmd) : Cmd where
  op := c.op
  t := c.t
  u := if c.op = 5 then c.u else 0
  l0 := if c.op = 1 ∨ c.op = 3 then c.l0 else Lm.zero
  l1 := if c.op = 1 ∨ c.op = 3 then c.l1 else Lm.zero
  l2 := if c.op = 1 ∨ c.op = 3 then c.l2 else Lm.zero
  us := if c.op = 1 then c.us else 0
  en := if c.op = 1 then c.en else 0
  x := c.x
  g := c.g
  hop := c.hop
  ht := c.ht
  hu := by split <;> first | exact c.hu | decide
  hus := by split <;> first | exact c.hus | decide
  hen := by split <;> first | exact c.hen | decide
  hx := c.hx
  hg := c.hg
  hgb := c.hgb
def Cap (n : Int) : Prop := 1 ≤ n ∧ n ≤ 8
def Cmd.lims (c : Cmd) : Prop := c.l0.ok ∧ c.l1.ok ∧ c.l2.ok
def Cmd.none (c : Cmd) : Prop := c.l0 = Lm.zero ∧ c.l1 = Lm.zero ∧ c.l2 = Lm.zero
/-- A valid command. -/
def Cmd.Ok (c : Cmd) : Prop := c.t < 16 ∧ ((c.op = 1 ∧ c.lims ∧ Cap c.us ∧ Cap c.en ∧ c.u = 0) ∨ (c.op = 3 ∧ c.lims ∧ c.us = 0 ∧ c.en = 0 ∧ c.u = 0) ∨ ((c.op = 2 ∨ c.op = 4) ∧ c.none ∧ c.us = 0 ∧ c.en = 0 ∧ c.u = 0) ∨ (c.op = 5 ∧ c.none ∧ c.us = 0 ∧ c.en = 0))
theorem Cmd.only_of {c : Cmd} (h : c.Ok) : c = c.only := by
  obtain ⟨_, ⟨ho, hl, _, _, hu⟩ | ⟨ho, hl, h1, h2, hu⟩ | ⟨ho, ⟨hl0, hl1, hl2⟩, h1, h2, hu⟩ | ⟨ho, ⟨hl0, hl1, hl2⟩, h1, h2⟩⟩ := h
  · refine Cmd.ext' rfl rfl ?_ ?_ ?_ ?_ ?_ ?_ rfl rfl <;> simp [Cmd.only, ho, hu]
  · refine Cmd.ext' rfl rfl ?_ ?_ ?_ ?_ ?_ ?_ rfl rfl <;> simp [Cmd.only, ho, hu, h1, h2]
  · rcases ho with ho | ho
    · refine Cmd.ext' rfl rfl ?_ ?_ ?_ ?_ ?_ ?_ rfl rfl <;> simp [Cmd.only, ho, hu, h1, h2, hl0, hl1, hl2]
    · refine Cmd.ext' rfl rfl ?_ ?_ ?_ ?_ ?_ ?_ rfl rfl <;> simp [Cmd.only, ho, hu, h1, h2, hl0, hl1, hl2]
  · refine Cmd.ext' rfl rfl ?_ ?_ ?_ ?_ ?_ ?_ rfl rfl <;> simp [Cmd.only, ho, h1, h2, hl0, hl1, hl2]
/-- What is used alone is valid exactly if its limits and capacities are. -/
theorem Cmd.ok_iff {c : Cmd} (h : c = c.only) : c.Ok ↔ c.t < 16 ∧ ((c.op = 1 ∧ c.lims ∧ Cap c.us ∧ Cap c.en) ∨ (c.op = 3 ∧ c.lims) ∨ c.op = 2 ∨ c.op = 4 ∨ c.op = 5) := by
  have hu : c.u = if c.op = 5 then c.u else 0 := congrArg Cmd.u h
  have h0 : c.l0 = if c.op = 1 ∨ c.op = 3 then c.l0 else Lm.zero := congrArg Cmd.l0 h
  have h1 : c.l1 = if c.op = 1 ∨ c.op = 3 then c.l1 else Lm.zero := congrArg Cmd.l1 h
  have h2 : c.l2 = if c.op = 1 ∨ c.op = 3 then c.l2 else Lm.zero := congrArg Cmd.l2 h
  have h3 : c.us = if c.op = 1 then c.us else 0 := congrArg Cmd.us h
  have h4 : c.en = if c.op = 1 then c.en else 0 := congrArg Cmd.en h
  unfold Cmd.Ok
  refine and_congr_right fun _ => ?_
  constructor
  · rintro (⟨ho, hl, hu, he, _⟩ | ⟨ho, hl, _⟩ | ⟨ho | ho, _⟩ | ⟨ho, _⟩)
    · exact Or.inl ⟨ho, hl, hu, he⟩
    · exact Or.inr (Or.inl ⟨ho, hl⟩)
    · exact Or.inr (Or.inr (Or.inl ho))
    · exact Or.inr (Or.inr (Or.inr (Or.inl ho)))
    · exact Or.inr (Or.inr (Or.inr (Or.inr ho)))
  · rintro (⟨ho, hl, hcu, hce⟩ | ⟨ho, hl⟩ | ho | ho | ho)
    · rw [ho] at hu
      exact Or.inl ⟨ho, hl, hcu, hce, by simpa using hu⟩
    · rw [ho] at hu h3 h4
      exact Or.inr (Or.inl ⟨ho, hl, by simpa using h3, by simpa using h4, by simpa using hu⟩)
    · rw [ho] at hu h0 h1 h2 h3 h4
      exact Or.inr (Or.inr (Or.inl ⟨Or.inl ho, ⟨by simpa using h0, by simpa using h1, by simpa using h2⟩, by simpa using h3, by simpa using h4, by simpa using hu⟩))
    · rw [ho] at hu h0 h1 h2 h3 h4
      exact Or.inr (Or.inr (Or.inl ⟨Or.inr ho, ⟨by simpa using h0, by simpa using h1, by simpa using h2⟩, by simpa using h3, by simpa using h4, by simpa using hu⟩))
    · rw [ho] at h0 h1 h2 h3 h4
      exact Or.inr (Or.inr (Or.inr ⟨ho, ⟨by simpa using h0, by simpa using h1, by simpa using h2⟩, by simpa using h3, by simpa using h4⟩))
/-- Its limits are words. -/
def Cmd.wd (c : Cmd) : Prop := c.l0.wd ∧ c.l1.wd ∧ c.l2.wd
theorem Cmd.ok_wd {c : Cmd} (h : c.Ok) : c.wd := by
  obtain ⟨_, ⟨ho, hl, _, _, hu⟩ | ⟨ho, hl, h1, h2, hu⟩ | ⟨ho, ⟨hl0, hl1, hl2⟩, h1, h2, hu⟩ | ⟨ho, ⟨hl0, hl1, hl2⟩, h1, h2⟩⟩ := h
  · exact ⟨Lm.ok_wd hl.1, Lm.ok_wd hl.2.1, Lm.ok_wd hl.2.2⟩
  · exact ⟨Lm.ok_wd hl.1, Lm.ok_wd hl.2.1, Lm.ok_wd hl.2.2⟩
  · unfold Cmd.wd
    rw [hl0, hl1, hl2]
    exact ⟨Lm.zero_wd, Lm.zero_wd, Lm.zero_wd⟩
  · unfold Cmd.wd
    rw [hl0, hl1, hl2]
    exact ⟨Lm.zero_wd, Lm.zero_wd, Lm.zero_wd⟩
theorem Cmd.zero_wd : Cmd.zero.wd := ⟨Lm.zero_wd, Lm.zero_wd, Lm.zero_wd⟩
/-- A command's numbers, in order; their widths. -/
def Cmd.ns (c : Cmd) : List Int := [c.op, c.t, c.u, c.l0.b, c.l0.r, c.l0.p, c.l1.b, c.l1.r, c.l1.p, c.l2.b, c.l2.r, c.l2.p, c.us, c.en, c.x]
def wsC : List Nat := [1, 4, 4, 4, 4, 4, 4, 4, 4, 4, 4, 4, 1, 1, 8]
theorem p256_1 : (256 : Int) ^ 1 = 256 := by decide
theorem p256_2 : (256 : Int) ^ 2 = 65536 := by decide
theorem p256_4 : (256 : Int) ^ 4 = 4294967296 := by decide
theorem p256_8 : (256 : Int) ^ 8 = 18446744073709551616 := by decide
theorem Cmd.ns_in {c : Cmd} (h : c.wd) : InW wsC c.ns := by
  obtain ⟨⟨a0, a1, a2⟩, ⟨b0, b1, b2⟩, ⟨c0, c1, c2⟩⟩ := h
  have := c.hop; have := c.ht; have := c.hu; have := c.hus; have := c.hen; have := c.hx
  simp only [wsC, Cmd.ns, InW, p256_1, p256_4, p256_8, and_true]
  omega
/-- The message of a command. -/
def Cmd.msg (c : Cmd) : List Int := beL (1 :: wsC) (2 :: c.ns)
theorem Cmd.in2 {c : Cmd} (h : c.wd) : InW (1 :: wsC) (2 :: c.ns) := ⟨by rw [p256_1]; decide, c.ns_in h⟩
theorem Cmd.msg_len {c : Cmd} (h : c.wd) : c.msg.length = 56 := beL_len (c.in2 h)
theorem Cmd.msg_byts (c : Cmd) : Byts c.msg := beL_byts _ _
theorem Cmd.ns_inj {c d : Cmd} (h : c.ns = d.ns) (hg : c.g = d.g) : c = d := by
  simp only [Cmd.ns, List.cons.injEq, and_true] at h
  obtain ⟨h1, h2, h3, h4, h5, h6, h7, h8, h9, h10, h11, h12, h13, h14, h15⟩ := h
  exact Cmd.ext' h1 h2 h3 (Lm.ext' h4 h5 h6) (Lm.ext' h7 h8 h9) (Lm.ext' h10 h11 h12) h13 h14 h15 hg
theorem Cmd.msg_inj {c d : Cmd} (hc : c.wd) (hd : d.wd) {xs ys : List Int} (h : c.msg ++ xs = d.msg ++ ys) : c.ns = d.ns ∧ xs = ys := by
  obtain ⟨h1, h2⟩ := beL_inj (c.in2 hc) (d.in2 hd) h
  simp only [List.cons.injEq, true_and] at h1
  exact ⟨h1, h2⟩
/-- The command that 87 bytes are. -/
theorem Cmd.of_bytes {bs : List Int} (hl : bs.length = 87) (hb : Byts bs) : ∃ c : Cmd, c.wd ∧ bs = beL wsC c.ns ++ c.g := by
  obtain ⟨ns, rest, h1, h2, h3, h4⟩ := bytes_cut wsC 32 bs (by rw [hl]; rfl) hb
  match ns, h1 with
  | [op, t, u, b0, r0, p0, b1, r1, p1, b2, r2, p2, us, en, x], h1 =>
    simp only [wsC, InW, p256_1, p256_4, p256_8, and_true] at h1
    refine ⟨⟨op, t, u, ⟨b0, r0, p0, by omega, by omega, by omega⟩, ⟨b1, r1, p1, by omega, by omega, by omega⟩, ⟨b2, r2, p2, by omega, by omega, by omega⟩, us, en, x, rest, by omega, by omega, by omega, by omega, by omega, by omega, h3, h4⟩, ?_, h2⟩
    unfold Cmd.wd Lm.wd
    dsimp only
    omega

/-- A request, as it is held. -/
structure Req where
  k : Nums
  g : List Int
  ep : Int
  co : Int
  hg : g.length = 32
  hgb : Byts g
  hep : 0 ≤ ep ∧ ep ≤ 65535
  hco : 0 ≤ co ∧ co ≤ 4294967295
theorem Req.ext' {r s : Req} (h1 : r.k = s.k) (h2 : r.g = s.g) (h3 : r.ep = s.ep) (h4 : r.co = s.co) : r = s := by
  cases r; cases s; simp_all
def Req.zero : Req := ⟨Nums.zero, zeroD, 0, 0, zeroD_len, zeroD_byts, by decide, by decide⟩
/-- Its bytes behind the first one. -/
def Req.bs (r : Req) : List Int := r.k.msg ++ (r.g ++ (be 2 r.ep ++ be 4 r.co))
theorem Req.bs_len (r : Req) : r.bs.length = 58 := by unfold Req.bs; simp [r.k.msg_len, r.hg, be_len]
theorem Req.bs_byts (r : Req) : Byts r.bs := r.k.msg_byts.append (r.hgb.append ((be_byts 2 _).append (be_byts 4 _)))
theorem Req.bs_inj {r s : Req} (h : r.bs = s.bs) : r = s := by
  unfold Req.bs at h
  obtain ⟨h1, h⟩ := List.append_inj h (by rw [r.k.msg_len, s.k.msg_len])
  obtain ⟨h2, h⟩ := List.append_inj h (by rw [r.hg, s.hg])
  obtain ⟨h3, h4⟩ := List.append_inj h (by rw [be_len, be_len])
  have e3 := congrArg num h3
  have e4 := congrArg num h4
  have := r.hep; have := s.hep; have := r.hco; have := s.hco
  rw [num_be 2 r.ep r.hep.1 (by rw [p256_2]; omega), num_be 2 s.ep s.hep.1 (by rw [p256_2]; omega)] at e3
  rw [num_be 4 r.co r.hco.1 (by rw [p256_4]; omega), num_be 4 s.co s.hco.1 (by rw [p256_4]; omega)] at e4
  exact Req.ext' (Nums.msg_inj h1) h2 e3 e4
theorem Req.of_bytes {bs : List Int} (hl : bs.length = 58) (hb : Byts bs) : ∃ r : Req, r.bs = bs := by
  obtain ⟨k, hk, _⟩ := Nums.of_bytes (bs := bs.take 20) (by rw [List.length_take]; omega) (hb.take 20)
  have l1 : ((bs.drop 20).take 32).length = 32 := by rw [List.length_take, List.length_drop]; omega
  have l2 : ((bs.drop 52).take 2).length = 2 := by rw [List.length_take, List.length_drop]; omega
  have l3 : (bs.drop 54).length = 4 := by rw [List.length_drop]; omega
  have b2 := num_bound 2 _ l2 ((hb.drop 52).take 2)
  have b3 := num_bound 4 _ l3 (hb.drop 54)
  rw [p256_2] at b2
  rw [p256_4] at b3
  refine ⟨⟨k, (bs.drop 20).take 32, num ((bs.drop 52).take 2), num (bs.drop 54), l1, (hb.drop 20).take 32, by omega, by omega⟩, ?_⟩
  unfold Req.bs
  simp only
  rw [hk, be_num 2 _ l2 ((hb.drop 52).take 2), be_num 4 _ l3 (hb.drop 54)]
  have e1 : (bs.drop 52).take 2 ++ bs.drop 54 = bs.drop 52 := by
    have := List.take_append_drop 2 (bs.drop 52)
    rwa [List.drop_drop] at this
  have e2 : (bs.drop 20).take 32 ++ bs.drop 52 = bs.drop 20 := by
    have := List.take_append_drop 32 (bs.drop 20)
    rwa [List.drop_drop] at this
  rw [e1, e2, List.take_append_drop]

/-- A frame, as it is held. -/
structure Frm where
  kd : Int
  r : Req
  c : Cmd
  hkd : 0 ≤ kd ∧ kd ≤ 255
theorem Frm.ext' {f h : Frm} (h1 : f.kd = h.kd) (h2 : f.r = h.r) (h3 : f.c = h.c) : f = h := by
  cases f; cases h; simp_all
def Frm.zero : Frm := ⟨0, Req.zero, Cmd.zero, by decide⟩
def Frm.req (r : Req) : Frm := ⟨1, r, Cmd.zero, by decide⟩
def Frm.cmd (c : Cmd) : Frm := ⟨2, Req.zero, c, by decide⟩
/-- A valid frame. -/
def Frm.Ok (f : Frm) : Prop := (f.kd = 1 ∧ f.r.k.t < 16 ∧ f.c = Cmd.zero) ∨ (f.kd = 2 ∧ f.r = Req.zero ∧ f.c.Ok)
def Frm.bs (f : Frm) : List Int := if f.kd = 2 then f.c.msg ++ f.c.g else 1 :: f.r.bs
/-- The tenant that it is of. -/
def Frm.te (f : Frm) : Int := if f.kd = 2 then f.c.t else f.r.k.t
theorem Frm.zero_no : ¬ Frm.zero.Ok := by
  rintro (⟨h, _⟩ | ⟨h, _⟩)
  · exact absurd h (by decide)
  · exact absurd h (by decide)
theorem Frm.ok_two {f : Frm} (h : f.Ok) : (f = Frm.req f.r ∧ f.r.k.t < 16 ∧ f.kd = 1 ∧ f.bs = 1 :: f.r.bs ∧ f.bs.length = 59) ∨ (f = Frm.cmd f.c ∧ f.c.Ok ∧ f.kd = 2 ∧ f.bs = f.c.msg ++ f.c.g ∧ f.bs.length = 88) := by
  rcases h with ⟨h1, h2, h3⟩ | ⟨h1, h2, h3⟩
  · have e : f.bs = 1 :: f.r.bs := by unfold Frm.bs; rw [if_neg (by omega)]
    exact Or.inl ⟨Frm.ext' h1 rfl h3, h2, h1, e, by rw [e, List.length_cons, f.r.bs_len]⟩
  · have e : f.bs = f.c.msg ++ f.c.g := by unfold Frm.bs; rw [if_pos h1]
    exact Or.inr ⟨Frm.ext' h1 h2 rfl, h3, h1, e, by rw [e, List.length_append, Cmd.msg_len (Cmd.ok_wd h3), f.c.hg]⟩
theorem Frm.bs_byts (f : Frm) : Byts f.bs := by
  unfold Frm.bs
  split
  · exact f.c.msg_byts.append f.c.hgb
  · intro x hx
    rcases List.mem_cons.1 hx with q | q
    · omega
    · exact f.r.bs_byts x q
theorem Frm.ok_inj {f h : Frm} (hf : f.Ok) (hh : h.Ok) (e : f.bs = h.bs) : f = h := by
  rcases Frm.ok_two hf with ⟨f1, f2, f3, f4, f5⟩ | ⟨f1, f2, f3, f4, f5⟩ <;> rcases Frm.ok_two hh with ⟨h1, h2, h3, h4, h5⟩ | ⟨h1, h2, h3, h4, h5⟩
  · rw [f4, h4] at e
    rw [f1, h1, Req.bs_inj (List.cons.inj e).2]
  · rw [e] at f5; omega
  · rw [e] at f5; omega
  · rw [f4, h4] at e
    obtain ⟨e1, e2⟩ := Cmd.msg_inj (Cmd.ok_wd f2) (Cmd.ok_wd h2) e
    rw [f1, h1, Cmd.ns_inj e1 e2]
theorem Frm.req_ok {r : Req} (h : r.k.t < 16) : (Frm.req r).Ok := Or.inl ⟨rfl, h, rfl⟩
theorem Frm.cmd_ok {c : Cmd} (h : c.Ok) : (Frm.cmd c).Ok := Or.inr ⟨rfl, rfl, h⟩
theorem Frm.req_bs (r : Req) : (Frm.req r).bs = 1 :: r.bs := by unfold Frm.bs; rw [if_neg (by show ¬ (1 : Int) = 2; decide)]; rfl
theorem Frm.cmd_bs (c : Cmd) : (Frm.cmd c).bs = c.msg ++ c.g := by unfold Frm.bs; rw [if_pos (by show (2 : Int) = 2; rfl)]; rfl
theorem Frm.req_iff (r : Req) : (Frm.req r).Ok ↔ r.k.t < 16 := by
  constructor
  · rintro (⟨_, h, _⟩ | ⟨h, _⟩)
    · exact h
    · exact absurd h (by show ¬ (1 : Int) = 2; decide)
  · exact Frm.req_ok
theorem Frm.cmd_iff (c : Cmd) : (Frm.cmd c).Ok ↔ c.Ok := by
  constructor
  · rintro (⟨h, _⟩ | ⟨_, _, h⟩)
    · exact absurd h (by show ¬ (2 : Int) = 1; decide)
    · exact h
  · exact Frm.cmd_ok

end Go.Proofs.Ytkpdlbcmnfphmaa
