/-
  Replies: their numbers, cells, bytes and rows of fields.
-/
import Derived.Test.YtipkgflonioacaaGen10
namespace Go.Proofs.Ytipkgflonioacaa
open Go.ChangeShapes Go.WideShapes Go.ChangeAt Go.RowKit Go.Joins

/-- A reply: code, tenant, the three levels, wait. -/
structure Rep where
  c : Int
  t : Int
  a : Int
  b : Int
  d : Int
  x : Int
  hc : 0 ≤ c ∧ c ≤ 255
  ht : 0 ≤ t ∧ t ≤ 4294967295
  ha : 0 ≤ a ∧ a ≤ 4294967295
  hb : 0 ≤ b ∧ b ≤ 4294967295
  hd : 0 ≤ d ∧ d ≤ 4294967295
  hx : 0 ≤ x ∧ x ≤ 18446744073709551615
theorem Rep.ext' {r s : Rep} (h1 : r.c = s.c) (h2 : r.t = s.t) (h3 : r.a = s.a) (h4 : r.b = s.b) (h5 : r.d = s.d) (h6 : r.x = s.x) : r = s := by
  cases r; cases s; subst h1 h2 h3 h4 h5 h6; rfl
/-- The reply with a code alone. -/
def Rep.lone (c : Int) (h : 0 ≤ c ∧ c ≤ 255) : Rep := ⟨c, 0, 0, 0, 0, 0, h, by decide, by decide, by decide, by decide, by decide⟩
def Rep.alone (r : Rep) : Rep := Rep.lone r.c r.hc
def Rep.zero : Rep := Rep.lone 0 (by decide)
def Rep.v (r : Rep) : List Value := [.int .u8 r.c, .int .u32 r.t, .int .u32 r.a, .int .u32 r.b, .int .u32 r.d, .int .u64 r.x]
/-- Codes that stand alone. -/
def Sole (c : Int) : Prop := c = 1 ∨ c = 4 ∨ c = 5 ∨ c = 6 ∨ c = 7 ∨ c = 8
instance (c : Int) : Decidable (Sole c) := by unfold Sole; exact inferInstance
def Two (c : Int) : Prop := c = 2 ∨ c = 3
instance (c : Int) : Decidable (Two c) := by unfold Two; exact inferInstance
def Rep.Low (r : Rep) : Prop := r.a ≤ 1000000000 ∧ r.b ≤ 1000000000 ∧ r.d ≤ 1000000000
def Rep.Ans (r : Rep) : Prop := r.t < 16 ∧ r.Low
def Rep.Bare (r : Rep) : Prop := Sole r.c ∧ r = r.alone
/-- Valid replies. -/
def Rep.Ok (r : Rep) : Prop := (r.c = 2 ∧ r.Ans ∧ r.x = 0) ∨ (r.c = 3 ∧ r.Ans ∧ 1 ≤ r.x) ∨ r.Bare
theorem Rep.zero_no : ¬ Rep.zero.Ok := by
  rintro (h | h | h)
  · exact absurd h.1 (by decide)
  · exact absurd h.1 (by decide)
  · exact absurd h.1 (by decide)
theorem Rep.lone_ok {c : Int} (h : 0 ≤ c ∧ c ≤ 255) (hs : Sole c) : (Rep.lone c h).Ok := Or.inr (Or.inr ⟨hs, rfl⟩)
theorem Sole.not_two {c : Int} (h : Sole c) : ¬ Two c := by unfold Sole Two at *; omega
theorem Rep.ok_code {r : Rep} (h : r.Ok) : 1 ≤ r.c ∧ r.c ≤ 8 := by
  rcases h with h | h | h
  · have := h.1; omega
  · have := h.1; omega
  · have := h.1; unfold Sole at this; omega
/-- The bytes of a reply. -/
def Rep.bs (r : Rep) : List Int := r.c :: 0 :: 0 :: 0 :: (be 4 r.t ++ (be 4 r.a ++ (be 4 r.b ++ (be 4 r.d ++ (be 8 r.x ++ [0, 0, 0, 0])))))
theorem Rep.bs_len (r : Rep) : r.bs.length = 32 := by unfold Rep.bs; simp [be_len]
theorem Rep.bs_byts (r : Rep) : Byts r.bs := by
  intro y hy
  unfold Rep.bs at hy
  simp only [List.mem_cons, List.mem_append, List.not_mem_nil, or_false] at hy
  rcases hy with rfl | rfl | rfl | rfl | h | h | h | h | h | rfl | rfl | rfl | rfl
  · exact r.hc
  · decide
  · decide
  · decide
  · exact be_byts _ _ y h
  · exact be_byts _ _ y h
  · exact be_byts _ _ y h
  · exact be_byts _ _ y h
  · exact be_byts _ _ y h
  · decide
  · decide
  · decide
  · decide
theorem num4 {n : Int} (h : 0 ≤ n ∧ n ≤ 4294967295) : num (be 4 n) = n := num_be 4 n h.1 (by rw [p256_4]; omega)
theorem num8 {n : Int} (h : 0 ≤ n ∧ n ≤ 18446744073709551615) : num (be 8 n) = n := num_be 8 n h.1 (by rw [p256_8]; omega)
theorem be4_inj {n m : Int} (hn : 0 ≤ n ∧ n ≤ 4294967295) (hm : 0 ≤ m ∧ m ≤ 4294967295) (h : be 4 n = be 4 m) : n = m := by rw [← num4 hn, ← num4 hm, h]
theorem be8_inj {n m : Int} (hn : 0 ≤ n ∧ n ≤ 18446744073709551615) (hm : 0 ≤ m ∧ m ≤ 18446744073709551615) (h : be 8 n = be 8 m) : n = m := by rw [← num8 hn, ← num8 hm, h]
theorem Rep.bs_inj {r s : Rep} (h : r.bs = s.bs) : r = s := by
  unfold Rep.bs at h
  simp only [List.cons.injEq, true_and] at h
  obtain ⟨h1, h⟩ := h
  obtain ⟨h2, h⟩ := List.append_inj h (by rw [be_len, be_len])
  obtain ⟨h3, h⟩ := List.append_inj h (by rw [be_len, be_len])
  obtain ⟨h4, h⟩ := List.append_inj h (by rw [be_len, be_len])
  obtain ⟨h5, h⟩ := List.append_inj h (by rw [be_len, be_len])
  obtain ⟨h6, _⟩ := List.append_inj h (by rw [be_len, be_len])
  exact Rep.ext' h1 (be4_inj r.ht s.ht h2) (be4_inj r.ha s.ha h3) (be4_inj r.hb s.hb h4) (be4_inj r.hd s.hd h5) (be8_inj r.hx s.hx h6)

/-- A field of zeros; the row of a reply; its kinds. -/
theorem fd7_bs : (fdN 7 0).bs = [0] := by rw [fdN_bs (by decide) (by decide) (by decide)]; rfl
theorem fd7_ok : (fdN 7 0).ok = true := fdN_ok (by decide) (by decide) (by decide) (by decide)
theorem fd7_k : (fdN 7 0).k = 7 := fdN_k (by decide) (by decide)
def Rep.row (r : Rep) : List Fd := [fdN 2 r.c, fdN 7 0, fdN 7 0, fdN 7 0, fdN 4 r.t, fdN 4 r.a, fdN 4 r.b, fdN 4 r.d, fdN 5 r.x, fdN 7 0, fdN 7 0, fdN 7 0, fdN 7 0]
def kinP : List Int := [2, 7, 7, 7, 4, 4, 4, 4, 5, 7, 7, 7, 7]
theorem Rep.row_k (r : Rep) : r.row.map Fd.k = kinP := by
  unfold Rep.row kinP
  simp only [List.map_cons, List.map_nil, fd2_k r.hc, fd7_k, fd4_k r.ht, fd4_k r.ha, fd4_k r.hb, fd4_k r.hd, fd5_k r.hx]
theorem Rep.row_all (r : Rep) : ∀ f ∈ r.row, f.ok = true := by
  intro f hf
  unfold Rep.row at hf
  simp only [List.mem_cons, List.not_mem_nil, or_false] at hf
  rcases hf with rfl | rfl | rfl | rfl | rfl | rfl | rfl | rfl | rfl | rfl | rfl | rfl | rfl
  · exact fd2_ok r.hc
  · exact fd7_ok
  · exact fd7_ok
  · exact fd7_ok
  · exact fd4_ok r.ht
  · exact fd4_ok r.ha
  · exact fd4_ok r.hb
  · exact fd4_ok r.hd
  · exact fd5_ok r.hx
  · exact fd7_ok
  · exact fd7_ok
  · exact fd7_ok
  · exact fd7_ok
theorem Rep.row_e (r : Rep) : rowE r.row = 0 := rowE_ok (by show 13 ≤ 40; decide) r.row_all
theorem Rep.row_b (r : Rep) : rowB r.row = r.bs := by
  unfold Rep.row Rep.bs
  simp only [rowB_cons, rowB_nil, fd2_bs r.hc, fd7_bs, fd4_bs r.ht, fd4_bs r.ha, fd4_bs r.hb, fd4_bs r.hd, fd5_bs r.hx, be_one r.hc]
  simp
theorem Rep.rea (r : Rep) : reaE kinP r.bs = 0 ∧ reaF kinP r.bs = r.row := by
  have := rea_of r.row_e
  rwa [r.row_k, r.row_b] at this
/-- A field of a kind other than that of digests, without error. -/
theorem Fd.of_ok {f : Fd} {k : Int} (h : f.ok = true) (hk : f.k = k) (h6 : k ≠ 6) : f = fdN k f.n ∧ f.n ≤ gre k := by
  subst hk
  unfold Fd.ok at h
  simp only [Bool.and_eq_true, Bool.or_eq_true, decide_eq_true_eq] at h
  obtain ⟨⟨_, h2⟩, h3⟩ := h
  refine ⟨?_, h2⟩
  rw [fdN_is f.hk f.hn]
  exact Fd.ext' rfl rfl (by rcases h3 with h3 | h3; exact absurd h3 h6; exact h3)
theorem row_of {fs : List Fd} (hk : fs.map Fd.k = kinP) (ho : ∀ f ∈ fs, f.ok = true) : ∃ r : Rep, fs = r.row := by
  have hl : fs.length = 13 := by rw [← List.length_map (f := Fd.k), hk]; rfl
  match fs, hl with
  | [f0, f1, f2, f3, f4, f5, f6, f7, f8, f9, f10, f11, f12], _ =>
    unfold kinP at hk
    simp only [List.map_cons, List.map_nil, List.cons.injEq, and_true] at hk
    obtain ⟨k0, k1, k2, k3, k4, k5, k6, k7, k8, k9, k10, k11, k12⟩ := hk
    simp only [List.mem_cons, List.not_mem_nil, or_false, forall_eq_or_imp, forall_eq] at ho
    obtain ⟨o0, o1, o2, o3, o4, o5, o6, o7, o8, o9, o10, o11, o12⟩ := ho
    have z : ∀ {f : Fd}, f.ok = true → f.k = 7 → f = fdN 7 0 := fun {f} h hk => by
      obtain ⟨e, g⟩ := Fd.of_ok h hk (by decide)
      have : f.n = 0 := by have := f.hn; have g2 : gre 7 = 0 := rfl; omega
      rw [this] at e
      exact e
    obtain ⟨e0, g0⟩ := Fd.of_ok o0 k0 (by decide)
    obtain ⟨e4, g4⟩ := Fd.of_ok o4 k4 (by decide)
    obtain ⟨e5, g5⟩ := Fd.of_ok o5 k5 (by decide)
    obtain ⟨e6, g6⟩ := Fd.of_ok o6 k6 (by decide)
    obtain ⟨e7, g7⟩ := Fd.of_ok o7 k7 (by decide)
    obtain ⟨e8, g8⟩ := Fd.of_ok o8 k8 (by decide)
    refine ⟨⟨f0.n, f4.n, f5.n, f6.n, f7.n, f8.n, ⟨f0.hn.1, g0⟩, ⟨f4.hn.1, g4⟩, ⟨f5.hn.1, g5⟩, ⟨f6.hn.1, g6⟩, ⟨f7.hn.1, g7⟩, f8.hn⟩, ?_⟩
    unfold Rep.row
    simp only [List.cons.injEq, and_true]
    exact ⟨e0, z o1 k1, z o2 k2, z o3 k3, e4, e5, e6, e7, e8, z o9 k9, z o10 k10, z o11 k11, z o12 k12⟩
theorem kinP_ok : kinE kinP = 0 := kinE_ok (by decide) (by decide)
theorem kinP_byts : ∀ k ∈ kinP, 0 ≤ k ∧ k ≤ 255 := by decide
theorem rea_two (bs : List Int) (hb : Byts bs) : (∃ r : Rep, r.bs = bs ∧ reaE kinP bs = 0 ∧ reaF kinP bs = r.row) ∨ (reaE kinP bs = 12 ∧ reaF kinP bs = [] ∧ ∀ r : Rep, r.bs ≠ bs) := by
  have nn : reaE kinP bs ≠ 0 → ∀ r : Rep, r.bs ≠ bs := fun h r e => h (by rw [← e]; exact r.rea.1)
  cases hr : rd kinP bs with
  | none =>
    obtain ⟨e1, _, _⟩ := fir_none kinP_ok hr
    have e4 : reaE kinP bs = 12 := by unfold reaE; rw [e1]; rfl
    exact Or.inr ⟨e4, by unfold reaF; rw [e4]; rfl, nn (by rw [e4]; decide)⟩
  | some p =>
    obtain ⟨fs, rest⟩ := p
    have R := rd_some kinP_byts hb hr
    obtain ⟨e1, e2, e3⟩ := fir_some kinP_ok R
    by_cases hz : rest = []
    · subst hz
      obtain ⟨r, rfl⟩ := row_of R.k R.ok
      have hbs : r.bs = bs := by rw [← r.row_b, ← R.b, List.append_nil]
      exact Or.inl ⟨r, hbs, by rw [← hbs]; exact r.rea.1, by rw [← hbs]; exact r.rea.2⟩
    · have e4 : reaE kinP bs = 12 := by unfold reaE; rw [e1, e3, if_pos rfl, if_neg hz]
      exact Or.inr ⟨e4, by unfold reaF; rw [e4]; rfl, nn (by rw [e4]; decide)⟩

/-- What Parse answers to bytes. -/
def PParse (bs : List Int) (G : Rep) (q : Int) : Prop := (q = 0 ∧ G.Ok ∧ G.bs = bs) ∨ (q = 12 ∧ G = Rep.zero ∧ ∀ F : Rep, F.Ok → F.bs ≠ bs)
theorem PParse.uniq {bs : List Int} {G H : Rep} {p q : Int} (h1 : PParse bs G p) (h2 : PParse bs H q) : G = H ∧ p = q := by
  rcases h1 with ⟨rfl, g1, g2⟩ | ⟨rfl, rfl, g3⟩ <;> rcases h2 with ⟨rfl, k1, k2⟩ | ⟨rfl, rfl, k3⟩
  · exact ⟨Rep.bs_inj (by rw [g2, k2]), rfl⟩
  · exact absurd g2 (k3 G g1)
  · exact absurd k2 (g3 H k1)
  · exact ⟨rfl, rfl⟩
theorem PParse.self {r : Rep} (h : r.Ok) : PParse r.bs r 0 := Or.inl ⟨rfl, h, rfl⟩
theorem PParse.of (r : Rep) : (r.Ok → PParse r.bs r 0) ∧ (¬ r.Ok → PParse r.bs Rep.zero 12) :=
  ⟨PParse.self, fun h => Or.inr ⟨rfl, rfl, fun F hF e => h (by rw [← Rep.bs_inj e]; exact hF)⟩⟩
/-- The reply that 32 bytes would be. -/
theorem rep_of (bs : List Int) (hl : bs.length = 32) (hb : Byts bs) : ∃ r : Rep, r.c = nth bs 0 ∧ r.t = num ((bs.take 8).drop 4) ∧ r.a = num ((bs.take 12).drop 8) ∧ r.b = num ((bs.take 16).drop 12) ∧ r.d = num ((bs.take 20).drop 16) ∧ r.x = num ((bs.take 28).drop 20) ∧ ∀ F : Rep, F.bs = bs → F = r := by
  have h4 : ∀ k, k + 4 ≤ 32 → 0 ≤ num ((bs.take (k + 4)).drop k) ∧ num ((bs.take (k + 4)).drop k) ≤ 4294967295 := fun k hk => by
    have := num_bound 4 ((bs.take (k + 4)).drop k) (by rw [List.length_drop, List.length_take]; omega) ((hb.take _).drop _)
    rw [p256_4] at this
    omega
  have h8 : 0 ≤ num ((bs.take 28).drop 20) ∧ num ((bs.take 28).drop 20) ≤ 18446744073709551615 := by
    have := num_bound 8 ((bs.take 28).drop 20) (by rw [List.length_drop, List.length_take]; omega) ((hb.take _).drop _)
    rw [p256_8] at this
    omega
  have h0 : 0 ≤ nth bs 0 ∧ nth bs 0 ≤ 255 := hb _ (nth_mem (by omega))
  refine ⟨⟨nth bs 0, num ((bs.take 8).drop 4), num ((bs.take 12).drop 8), num ((bs.take 16).drop 12), num ((bs.take 20).drop 16), num ((bs.take 28).drop 20), h0, h4 4 (by decide), h4 8 (by decide), h4 12 (by decide), h4 16 (by decide), h8⟩, rfl, rfl, rfl, rfl, rfl, rfl, fun F hF => ?_⟩
  subst hF
  have c : ∀ (k m : Nat) (pre mid post : List Int), F.bs = pre ++ (mid ++ post) → pre.length = k → mid.length = m → (F.bs.take (k + m)).drop k = mid := fun k m pre mid post h1 h2 h3 => cut_mid h1 h2 h3
  refine Rep.ext' rfl ?_ ?_ ?_ ?_ ?_
  · show F.t = num ((F.bs.take (4 + 4)).drop 4)
    rw [c 4 4 [F.c, 0, 0, 0] (be 4 F.t) _ rfl rfl (be_len _ _), num4 F.ht]
  · show F.a = num ((F.bs.take (8 + 4)).drop 8)
    rw [c 8 4 ([F.c, 0, 0, 0] ++ be 4 F.t) (be 4 F.a) (be 4 F.b ++ (be 4 F.d ++ (be 8 F.x ++ [0, 0, 0, 0]))) (by simp [Rep.bs]) (by simp [be_len]) (be_len _ _), num4 F.ha]
  · show F.b = num ((F.bs.take (12 + 4)).drop 12)
    rw [c 12 4 ([F.c, 0, 0, 0] ++ be 4 F.t ++ be 4 F.a) (be 4 F.b) (be 4 F.d ++ (be 8 F.x ++ [0, 0, 0, 0])) (by simp [Rep.bs]) (by simp [be_len]) (be_len _ _), num4 F.hb]
  · show F.d = num ((F.bs.take (16 + 4)).drop 16)
    rw [c 16 4 ([F.c, 0, 0, 0] ++ be 4 F.t ++ be 4 F.a ++ be 4 F.b) (be 4 F.d) (be 8 F.x ++ [0, 0, 0, 0]) (by simp [Rep.bs]) (by simp [be_len]) (be_len _ _), num4 F.hd]
  · show F.x = num ((F.bs.take (20 + 8)).drop 20)
    rw [c 20 8 ([F.c, 0, 0, 0] ++ be 4 F.t ++ be 4 F.a ++ be 4 F.b ++ be 4 F.d) (be 8 F.x) [0, 0, 0, 0] (by simp [Rep.bs]) (by simp [be_len]) (be_len _ _), num8 F.hx]

/-- The cells of a reply: opened, compared, of six cells. -/
def kindsP : List IntKind := [.u8, .u32, .u32, .u32, .u32, .u64]
theorem fit_rep (r : Rep) : Fit kindsP r.v := .cons (fitU8 r.hc) (.cons (fitU32 r.ht) (.cons (fitU32 r.ha) (.cons (fitU32 r.hb) (.cons (fitU32 r.hd) (.cons (fitU64 r.hx) trivial)))))
theorem fit_rep_inv {cs : List Value} (h : Fit kindsP cs) : ∃ r : Rep, cs = r.v := by
  obtain ⟨c, _, rfl, hc, h⟩ := h.inv
  obtain ⟨t, _, rfl, ht, h⟩ := h.inv
  obtain ⟨a, _, rfl, ha, h⟩ := h.inv
  obtain ⟨b, _, rfl, hb, h⟩ := h.inv
  obtain ⟨d, _, rfl, hd, h⟩ := h.inv
  obtain ⟨x, cs', rfl, hx, h⟩ := h.inv
  obtain rfl := List.eq_nil_of_length_eq_zero h.len
  exact ⟨⟨c, t, a, b, d, x, b8 hc, b32 ht, b32 ha, b32 hb, b32 hd, b64 hx⟩, rfl⟩
theorem Rep.v_inj {r s : Rep} (h : r.v = s.v) : r = s := by
  unfold Rep.v at h
  simp only [List.cons.injEq, Value.int.injEq, true_and, and_true] at h
  exact Rep.ext' h.1 h.2.1 h.2.2.1 h.2.2.2.1 h.2.2.2.2.1 h.2.2.2.2.2
theorem keyP : Try.prog.keyTypeAt 5 26 = true := by kernel_rfl
theorem kinPt : kindsT Try.prog 5 26 = some kindsP := by kernel_rfl
theorem aggP : aggB Try.prog 26 = true := by kernel_rfl
theorem celP : Try.prog.cellsOf 26 = kindsP.length := by kernel_rfl
theorem eqp_t {r s : Rep} (h : r = s) (W : World) : (Op.equalIn 10000 26 (.agg r.v.toArray) (.agg s.v.toArray)).run Try.prog W = .ok true W :=
  eq_flat_t 5 (by decide) keyP kinPt aggP celP (fit_rep r) (by rw [h]) W
theorem eqp_f {r s : Rep} (h : r ≠ s) (W : World) : (Op.equalIn 10000 26 (.agg r.v.toArray) (.agg s.v.toArray)).run Try.prog W = .ok false W :=
  eq_flat_f 5 (by decide) keyP kinPt aggP celP (fit_rep r) (fit_rep s) (fun e => h (Rep.v_inj e)) W
/-- Two replies compared: the answer is a letter's. -/
theorem eqp_is {r s : Rep} {q : Bool} (h : Hid (r = s ↔ q = true)) (W : World) : (Op.equalIn 10000 26 (.agg r.v.toArray) (.agg s.v.toArray)).run Try.prog W = .ok q W := by
  cases q
  · exact eqp_f (fun e => by have := h.out.1 e; cases this) W
  · exact eqp_t (h.out.2 rfl) W
theorem sizeRep : (Try.prog.info? 26).map (·.size) = some 6 := by kernel_rfl
theorem size_rep (r : Rep) : (Try.prog.info? 26).map (·.size) = some r.v.length := by rw [sizeRep]; rfl
theorem one_rep (r : Rep) : r.v.toArray.all (·.oneCell') = true := all_oneCell_toArray (fit_one (fit_rep r))
theorem len_rep (r s : Rep) : r.v.length = s.v.length := rfl
section
variable {H : Type} {enc : TypeId × Value → H} {W : World} {r : Reach} {b0 base : Nat} {sp : Nat → Bool} {held : Bool} {v : Value} {d : DataW H} {p : List MemPlace}
set_option maxRecDepth 100000 in
/-- A reply that came in. -/
theorem open_rep (hw : Value.okWide Try.prog W r b0 26 v) (h : DataW.Trod enc Try.prog W base sp held 26 v d p) : ∃ r : Rep, v = .agg r.v.toArray := by
  obtain ⟨cs, rfl, hf⟩ := open_flat 5 kinPt aggP hw h
  obtain ⟨r, rfl⟩ := fit_rep_inv hf
  exact ⟨r, rfl⟩
end
set_option maxRecDepth 100000 in
theorem build_rz (W : World) : (Instr.build 26 #[]).run Try.prog W = .ok (.agg Rep.zero.v.toArray) W := by kernel_rfl
set_option maxRecDepth 100000 in
theorem build_rc (c : Int) (h : 0 ≤ c ∧ c ≤ 255) (W : World) : (Instr.build 26 #[(0, .int .u8 c)]).run Try.prog W = .ok (.agg (Rep.lone c h).v.toArray) W := by kernel_rfl

end Go.Proofs.Ytipkgflonioacaa
