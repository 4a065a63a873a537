/-
  LevelsRuns, walked over levels.Run and its reference: it returns true.
-/
import Derived.Test.YtmpcpflpcfanjaaSame04
namespace Go.Proofs.Ytmpcpflpcfanjaa
open Go.RowKit

/-- A row, the levels of its first buckets struck. -/
def marks (zs : List Bk) (k : Nat) : List Bk := (zs.take k).map (fun b => ⟨b.bu, b.ra, b.pe, -1, b.pt, b.a⟩) ++ zs.drop k
theorem marks_len (zs : List Bk) (k : Nat) : (marks zs k).length = zs.length := by unfold marks; simp; omega
theorem marks_at {zs : List Bk} {k : Nat} (h : k < zs.length) : bk (marks zs k) k = bk zs k := by
  have e2 : ((zs.take k).map (fun b : Bk => (⟨b.bu, b.ra, b.pe, -1, b.pt, b.a⟩ : Bk))).length = k := by simp; omega
  rw [bk_get (by rw [marks_len]; exact h), bk_get h]
  unfold marks
  rw [List.getElem_append_right (by omega), List.getElem_drop]
  congr 1
  omega
theorem marks_succ {zs : List Bk} {k : Nat} (h : k < zs.length) : (flat (marks zs k)).set (k * 6 + 3) (.int .i64 (-1)) = flat (marks zs (k + 1)) := by
  have e1 : zs.drop k = bk zs k :: zs.drop (k + 1) := by rw [List.drop_eq_getElem_cons h, bk_get h]
  have e2 : ((zs.take k).map (fun b : Bk => (⟨b.bu, b.ra, b.pe, -1, b.pt, b.a⟩ : Bk))).length = k := by simp; omega
  have := flat_set ((zs.take k).map (fun b : Bk => (⟨b.bu, b.ra, b.pe, -1, b.pt, b.a⟩ : Bk))) (zs.drop (k + 1)) (bk zs k) (-1)
  rw [e2] at this
  unfold marks
  rw [e1, this, take_succ_bk h, List.map_append, List.append_assoc]
  rfl
/-- A row that an append to another one leaves alone. -/
theorem own_grown {w w' : World} {B e s n : Nat} {v : Value} {l : List Value} {row : Option Nat} (h : w.ownsRow B e s v n l) (hg : w.grownBy w' row) (hne : v.ownBlock = none ∨ v.ownBlock ≠ row) : w'.ownsRow B e s v n l := World.ownsRow.kept h hg hne
/-- Rows of two types lie apart. -/
theorem own_apart {w : World} {B B' e e' s s' n n' g : Nat} {v v' : Value} {l l' : List Value} (h : w.ownsRow B e s v n l) (h' : w.ownsRow B' e' s' v' n' l') (he : e ≠ e') (hg : v.ownBlock = some g) : v'.ownBlock ≠ some g := by
  intro q
  obtain ⟨_, ⟨rfl, _⟩ | ⟨g1, c1, r1, rfl, _, h1, _⟩⟩ := h
  · cases hg
  · obtain ⟨_, ⟨rfl, _⟩ | ⟨g2, c2, r2, rfl, _, h2, _⟩⟩ := h'
    · cases q
    · cases hg
      cases q
      have h1' : w.heap[g1]? = some (.cells r1 e (0, 0)) := h1
      have h2' : w.heap[g1]? = some (.cells r2 e' (0, 0)) := h2
      rw [h1'] at h2'
      injection h2' with h3
      injection h3 with _ h4 _
      exact he h4
theorem own_apart2 {w : World} {B B' e e' s s' n n' : Nat} {v v' : Value} {l l' : List Value} (h : w.ownsRow B e s v n l) (h' : w.ownsRow B' e' s' v' n' l') (he : e ≠ e') : v'.ownBlock = none ∨ v'.ownBlock ≠ v.ownBlock := by
  cases e1 : v.ownBlock with
  | none =>
    cases e2 : v'.ownBlock with
    | none => exact .inl rfl
    | some g => exact .inr (by simp)
  | some g => exact .inr (own_apart h h' he e1)
theorem runE_cases (ts cs : List Int) : (200 < ts.length ∧ runE ts cs = 4) ∨ (ts.length ≤ 200 ∧ cosB ts cs = false ∧ runE ts cs = 2) ∨ (ts.length ≤ 200 ∧ cosB ts cs = true ∧ runE ts cs = 0) := by
  unfold runE
  rcases Nat.lt_or_ge 200 ts.length with q | q
  · exact .inl ⟨q, if_pos q⟩
  · rw [if_neg (by omega)]
    right
    by_cases z : cs.length = ts.length
    · rw [if_pos z]
      unfold cosB costE
      cases e : cs.all (fun x => decide (0 ≤ x)) with
      | true => exact .inr ⟨q, by simp [z], rfl⟩
      | false => exact .inl ⟨q, rfl, rfl⟩
    · rw [if_neg z]
      left
      refine ⟨q, ?_, rfl⟩
      unfold cosB
      simp [z]

set_option maxRecDepth 100000 in
set_option maxHeartbeats 3200000 in
theorem rrun_row {bs : List Bk} {ts cs : List Int} {at1 at2 : Option Addr} {n m c1 c2 : Nat} {v : Value} {w : World} {q : Int} (h : Hid (rowE bs = q)) (hq : q ≠ 0) (hn : Hid (ts.length = n)) (hm : Hid (cs.length = m)) (h1 : IsB w v bs) (hi : Ints w .u64 at1 c1 ts) (hj : Ints w .i64 at2 c2 cs) :
    Calls Try.prog 34 #[v, .slice at1 n c1, .slice at2 m c2] w (GivesRun [] [] q w) := by
  have i1 : n ≤ c1 := by have := hi.room; have := hn.out; omega
  have i2 := hi.most
  have j1 : m ≤ c2 := by have := hj.room; have := hm.out; omega
  have j2 := hj.most
  have H1 := Lib.hid h1
  have J1 := Lib.hid hj
  have d1 := wrong_ne hq
  clear h1 hi hj
  go_enter Try.func34, Try.ntmps34
  go_wp2_with fail
  refine (rcheckr_is h H1.out).mono ?_
  rintro e w1 ⟨rfl, hb⟩
  have hB1 : Below w.heap.size w w1 := below_thru (by go_grown) hb
  have hs1 := hB1.size
  have H1_ : Hid (IsB w1 v bs) := Lib.hid (by first | exact H1.out.below hb | exact (H1.out.alloc _).below hb | exact ((H1.out.alloc _).alloc _).below hb | exact (((H1.out.alloc _).alloc _).alloc _).below hb | exact H1.out.drew.below hb)
  clear H1; have H1 := H1_; clear H1_
  clear hb
  go_wp2_with fail
  refine (rcheckr_is h H1.out).mono ?_
  rintro e w2 ⟨rfl, hb⟩
  have hB2 : Below w.heap.size w w2 := below_thru (by go_grown) hb
  have hs2 := hB2.size
  have H1_ : Hid (IsB w2 v bs) := Lib.hid (by first | exact H1.out.below hb | exact (H1.out.alloc _).below hb | exact ((H1.out.alloc _).alloc _).below hb | exact (((H1.out.alloc _).alloc _).alloc _).below hb | exact H1.out.drew.below hb)
  clear H1; have H1 := H1_; clear H1_
  clear hb
  clear hB1 hs1
  go_wp2_with fail
  go_returns
  exact ⟨_, _, rfl, OwnB.nil, ownsV_none, hB2⟩

set_option maxRecDepth 100000 in
set_option maxHeartbeats 3200000 in
theorem rrun_many {bs : List Bk} {ts cs : List Int} {at1 at2 : Option Addr} {n m c1 c2 : Nat} {v : Value} {w : World} (h : Hid (rowE bs = 0)) (hl : 200 < n) (hn : Hid (ts.length = n)) (hm : Hid (cs.length = m)) (h1 : IsB w v bs) (hi : Ints w .u64 at1 c1 ts) (hj : Ints w .i64 at2 c2 cs) :
    Calls Try.prog 34 #[v, .slice at1 n c1, .slice at2 m c2] w (GivesRun [] [] 4 w) := by
  have i1 : n ≤ c1 := by have := hi.room; have := hn.out; omega
  have i2 := hi.most
  have j1 : m ≤ c2 := by have := hj.room; have := hm.out; omega
  have j2 := hj.most
  have H1 := Lib.hid h1
  have J1 := Lib.hid hj
  have d1 : decide ((200 : Int) < (n : Int)) = true := decide_eq_true (by omega)
  clear h1 hi hj
  go_enter Try.func34, Try.ntmps34
  go_wp2_with fail
  refine (rcheckr_is h H1.out).mono ?_
  rintro e w1 ⟨rfl, hb⟩
  have hB1 : Below w.heap.size w w1 := below_thru (by go_grown) hb
  have hs1 := hB1.size
  clear hb
  go_wp2_with fail
  go_returns
  exact ⟨_, _, rfl, OwnB.nil, ownsV_none, hB1⟩

set_option maxRecDepth 100000 in
set_option maxHeartbeats 3200000 in
theorem rrun_arg {bs : List Bk} {ts cs : List Int} {at1 at2 : Option Addr} {n m c1 c2 : Nat} {v : Value} {w : World} (h : Hid (rowE bs = 0)) (hl : n ≤ 200) (hx : Hid (cosB ts cs = false)) (hn : Hid (ts.length = n)) (hm : Hid (cs.length = m)) (h1 : IsB w v bs) (hi : Ints w .u64 at1 c1 ts) (hj : Ints w .i64 at2 c2 cs) :
    Calls Try.prog 34 #[v, .slice at1 n c1, .slice at2 m c2] w (GivesRun [] [] 2 w) := by
  have i1 : n ≤ c1 := by have := hi.room; have := hn.out; omega
  have i2 := hi.most
  have j1 : m ≤ c2 := by have := hj.room; have := hm.out; omega
  have j2 := hj.most
  have H1 := Lib.hid h1
  have J1 := Lib.hid hj
  have d1 : decide ((200 : Int) < (n : Int)) = false := decide_eq_false (by omega)
  clear h1 hi hj
  go_enter Try.func34, Try.ntmps34
  go_wp2_with fail
  refine (rcheckr_is h H1.out).mono ?_
  rintro e w1 ⟨rfl, hb⟩
  have hB1 : Below w.heap.size w w1 := below_thru (by go_grown) hb
  have hs1 := hB1.size
  clear hb
  have J2 := Lib.hid (J1.out.below hB1)
  go_wp2_with fail
  refine (rcosts_is _ hn hm hx J2.out).mono ?_
  rintro e _ ⟨rfl, rfl⟩
  go_wp2_with fail
  go_returns
  exact ⟨_, _, rfl, OwnB.nil, ownsV_none, hB1⟩

set_option maxRecDepth 100000 in
set_option maxHeartbeats 12800000 in
theorem rrun_ok {bs : List Bk} {ts cs : List Int} {at1 at2 : Option Addr} {n m c1 c2 : Nat} {v : Value} {w : World} {zs : List Bk} {aa : List Bool} (hr : Row bs) (he : Entries ts cs) (htc : ∀ k, k < cs.length → nth cs k ≤ 9223372036854775807) (hz : Hid (runR bs ts cs n = zs)) (ha : Hid (runA bs ts cs n = aa)) (hn : Hid (ts.length = n)) (hm : Hid (cs.length = m)) (h1 : IsB w v bs) (hi : Ints w .u64 at1 c1 ts) (hj : Ints w .i64 at2 c2 cs) :
    Calls Try.prog 34 #[v, .slice at1 n c1, .slice at2 m c2] w (GivesRun zs aa 0 w) := by
  have i1 : n ≤ c1 := by have := hi.room; have := hn.out; omega
  have i2 := hi.most
  have j1 : m ≤ c2 := by have := hj.room; have := hm.out; omega
  have j2 := hj.most
  have H1 := Lib.hid h1
  have J1 := Lib.hid hj
  have h := Lib.hid hr.e
  have hx : Hid (cosB ts cs = true) := Lib.hid (by rw [cosB_all he.cost]; exact decide_eq_true he.same)
  have hmn : m = n := by have := he.same; have := hn.out; have := hm.out; omega
  subst hmn
  have hl : m ≤ 200 := by have := he.len; have := hn.out; omega
  have d1 : decide ((200 : Int) < (m : Int)) = false := decide_eq_false (by omega)
  have HR := Lib.hid hr
  have HT := Lib.hid he
  have HC := Lib.hid htc
  have I1 := Lib.hid hi
  have I0 := Lib.hid hi
  have J0 := Lib.hid hj
  obtain ⟨nb, hnb⟩ : ∃ y, bs.length = y := ⟨_, rfl⟩
  have hn8 : nb ≤ 8 := by have := hr.len; omega
  obtain ⟨a0, k0, rfl, q0, z0, HB⟩ := h1.openN hnb
  have HNB := Lib.hid hnb
  clear h1 hi hj hr he htc hnb
  obtain ⟨ti, hin, hz0, hz1, hz2⟩ := info_parts info_bucket
  obtain ⟨tb, hbn, hy0, hy1, hy2⟩ := info_parts info_bool
  go_enter Try.func34, Try.ntmps34
  go_wp2_with fail
  refine (rcheckr_is h H1.out).mono ?_
  rintro e w1 ⟨rfl, hb⟩
  have hB1 : Below w.heap.size w w1 := below_thru (by go_grown) hb
  have hs1 := hB1.size
  have H1_ : Hid (IsB w1 (.slice a0 nb k0) bs) := Lib.hid (by first | exact H1.out.below hb | exact (H1.out.alloc _).below hb | exact ((H1.out.alloc _).alloc _).below hb | exact (((H1.out.alloc _).alloc _).alloc _).below hb | exact H1.out.drew.below hb)
  clear H1; have H1 := H1_; clear H1_
  have I1_ : Hid (Ints w1 .u64 at1 c1 ts) := Lib.hid (by first | exact I1.out.below hb | exact (I1.out.alloc _).below hb | exact ((I1.out.alloc _).alloc _).below hb | exact (((I1.out.alloc _).alloc _).alloc _).below hb | exact I1.out.drew.below hb)
  clear I1; have I1 := I1_; clear I1_
  have J1_ : Hid (Ints w1 .i64 at2 c2 cs) := Lib.hid (by first | exact J1.out.below hb | exact (J1.out.alloc _).below hb | exact ((J1.out.alloc _).alloc _).below hb | exact (((J1.out.alloc _).alloc _).alloc _).below hb | exact J1.out.drew.below hb)
  clear J1; have J1 := J1_; clear J1_
  have HB_ : Hid (Bks w1 a0 k0 bs) := Lib.hid (by first | exact HB.out.below hb | exact (HB.out.alloc _).below hb | exact ((HB.out.alloc _).alloc _).below hb | exact (((HB.out.alloc _).alloc _).alloc _).below hb | exact HB.out.drew.below hb)
  clear HB; have HB := HB_; clear HB_
  clear hb
  go_wp2_with fail
  refine (rcosts_is _ hn hm hx J1.out).mono ?_
  rintro e w1 ⟨rfl, rfl⟩
  go_wp2_with (at_builtin; refine wpList_append_row (by rfl) _ _ 39 (by rfl) w.heap.size 26 ti _ 48 Try.underlying39 hin hz0 hz1 hz2 rfl _ 0 [] (by rfl) (own_empty hs1) a0 k0 nb bs HNB.out (by rfl) (HB.out.alloc _) (by unfold maxLen; omega) (by omega) (by simp; omega) ?_; intro v9 w9 hown9 hgrow)
  have hB9 := (hB1.alloc hs1 (.cells #[] 26)).grown hgrow (by simp; omega) (own_blocks (own_empty (e := 26) hs1))
  have hs9 := hB9.size
  have O9 : Hid (OwnB w.heap.size w9 v9 bs) := Lib.hid (by
    unfold OwnB
    rw [HNB.out]
    simpa using hown9)
  clear hown9 hgrow HB H1 I1 J1
  go_loopw [9, 10, 11] (fun s9 s10 s11 wr => ∃ k : Nat, s11 = .int .i64 k ∧ k ≤ m ∧ Hid (OwnB w.heap.size wr s9 (runR bs ts cs k)) ∧ Hid (wr.ownsRow w.heap.size 4 1 s10 k (bools (runA bs ts cs k))) ∧ Below w.heap.size w wr) (fun _ _ s11 _ => m - (intOf s11).toNat)
  case atStart => exact ⟨0, rfl, by omega, O9, Lib.hid ownsV_none, hB9⟩
  case round =>
    obtain ⟨k, rfl, hk, HROW, HADM, hB⟩ := hrel
    clear O9 hB9 hs9 hB1 hs1
    have hs := hB.size
    by_cases hlt : k < m
    case neg =>
      obtain rfl : k = m := by omega
      have O4 : Hid (OwnB w.heap.size wr u9 zs) := Lib.hid (by rw [← hz.out]; exact HROW.out)
      have A4 : Hid (wr.ownsRow w.heap.size 4 1 u10 aa.length (bools aa)) := Lib.hid (by
        rw [← ha.out, runA_len]
        exact HADM.out)
      go_wp2_with fail
      go_returns
      exact ⟨_, _, rfl, O4.out, A4.out, hB⟩
    case pos =>
      obtain ⟨b1, o1, rfl, T0⟩ := I0.out.at (show k < ts.length by have := hn.out; omega)
      obtain ⟨b2, o2, rfl, C0⟩ := J0.out.at (show k < cs.length by have := hm.out; omega)
      have hti : isU (nth ts k) := HT.out.tick k (by have := hn.out; omega)
      have hci : 0 ≤ nth cs k := HT.out.cost k (by have := hm.out; omega)
      have hcm : nth cs k ≤ 9223372036854775807 := HC.out k (by have := hm.out; omega)
      obtain ⟨tk, etk⟩ : ∃ x, nth ts k = x := ⟨_, rfl⟩
      obtain ⟨co, eco⟩ : ∃ x, nth cs k = x := ⟨_, rfl⟩
      rw [etk] at T0 hti
      rw [eco] at C0 hci hcm
      have zt := lt_of_cell T0
      have zc := lt_of_cell C0
      have ct := cell_below hB T0
      have cc := cell_below hB C0
      have hkm : (k : Int) < (m : Int) := by omega
      have hk0 : (0 : Int) ≤ (k : Int) := by omega
      obtain ⟨rs, ers⟩ : ∃ x, runR bs ts cs k = x := ⟨_, rfl⟩
      obtain ⟨z2, ez2⟩ : ∃ x, takV rs tk co = x := ⟨_, rfl⟩
      obtain ⟨x2, ex2⟩ : ∃ x, takB rs tk co = x := ⟨_, rfl⟩
      have hrow : Row rs := by rw [← ers]; exact runR_row HR.out HT.out k (by have := hn.out; omega)
      have er1 : runR bs ts cs (k + 1) = z2 := by rw [← ez2, ← ers, ← etk, ← eco]; rfl
      have ea1 : bools (runA bs ts cs (k + 1)) = bools (runA bs ts cs k) ++ [.bool x2] := by rw [← bools_snoc, ← ex2, ← ers, ← etk, ← eco]; rfl
      have HRS : Hid (IsB wr.drew u9 rs) := Lib.hid (by have := HROW.out.is.drew; rwa [ers] at this)
      have HRW := Lib.hid hrow
      have EZ := Lib.hid ez2
      have EX := Lib.hid ex2
      have ER := Lib.hid er1
      have EA1 := Lib.hid ea1
      clear etk eco ers hrow ez2 ex2 er1 ea1 HROW
      obtain ⟨wo, rfl⟩ : ∃ u : World, u = wr := ⟨_, rfl⟩
      go_wp2_with fail
      go_region_held3 (fun w' => w'.cell? ⟨b1, o1 + k, none⟩ = some (.int .u64 tk) ∧ w'.cell? ⟨b2, o2 + k, none⟩ = some (.int .i64 co)) (((repeat' apply And.intro) <;> (first | (go_keep; done) | go_cell)))
        ((go_at_call 65; refine (rtaken_is HRW.out hti hci hcm EZ EX HRS.out).mono ?_; rintro e v1 ⟨vz, rfl, ho, hv1⟩; have hV1 : Below wo.heap.size wo v1 := below_thru (below_drewN (Below.refl _ _) 1) hv1; have hW1 : Below w.heap.size w v1 := hB.trans (hV1.mono hs); have c_t := cell_below hV1 ct; have c_c := cell_below hV1 cc; have hadv := Lib.hid (own_below HADM.out hV1); have hov : Hid (OwnB w.heap.size v1 vz z2) := Lib.hid (OwnB.base (show OwnB wo.heap.size v1 vz z2 from ho) hs); clear ho))
      all_goals
        have hsv := hW1.size
        go_wp2_with (at_builtin; refine wpList_append_own _ rfl _ _ 48 rfl w.heap.size 4 tb _ 1 1 Try.underlying48 hbn hy0 hy1 hy2 rfl (by decide) _ _ _ rfl (hadv.out.alloc _) ⟨v1.heap.size, 0, none⟩ 1 1 [.bool x2] rfl rfl (World.news_of_block (cs := #[.bool x2]) (t := 4) (fr := (0, 0)) (heap_alloc_new v1 _)) (by simp [Value.oneCell']) (by unfold maxLen; omega) (by omega) (by simp; omega) ?_; intro v9 w9 hown9 hgrow _)
        have hB9 := (hW1.alloc hsv (.cells #[.bool x2] 4)).grown hgrow (by simp; omega) (own_blocks (hadv.out.alloc (.cells #[.bool x2] 4)))
        rw [← EA1.out] at hown9
        have hOz : Hid (OwnB w.heap.size w9 vz z2) := Lib.hid (own_grown (hov.out.alloc _) hgrow (own_apart2 hadv.out hov.out (by decide)))
        go_roundw
        case rel => exact ⟨k + 1, by go_num, by omega, by rw [ER.out]; exact hOz, Lib.hid hown9, hB9⟩
        case measure => simp [intOf]; omega

set_option maxRecDepth 100000 in
set_option maxHeartbeats 3200000 in
theorem long_is {at1 at2 : Option Addr} {n m c1 c2 : Nat} {x : Bool} (w : World) (i1 : n ≤ 9223372036854775807) (j1 : m ≤ 9223372036854775807) (h : Hid ((decide (30 < n) && decide (n ≤ 200) || decide (300 < n) || decide (300 < m)) = x)) :
    Calls Try.prog 33 #[.slice at1 n c1, .slice at2 m c2] w fun e w' => e = .returned (.bool x) ∧ w' = w := by
  have _ := i1
  have _ := j1
  have hx := h.out
  clear h
  rcases Nat.lt_or_ge 30 n with a | a
  all_goals rcases Nat.lt_or_ge 200 n with b | b
  all_goals rcases Nat.lt_or_ge 300 n with c | c
  all_goals rcases Nat.lt_or_ge 300 m with d | d
  all_goals (try omega)
  all_goals
    have HX : Hid ((decide (30 < n) && decide (n ≤ 200) || decide (300 < n) || decide (300 < m)) = x) := Lib.hid hx
    clear hx
    obtain ⟨p1, hp1⟩ : ∃ y, decide ((30 : Int) < (n : Int)) = y := ⟨_, rfl⟩
    obtain ⟨p2, hp2⟩ : ∃ y, decide ((n : Int) ≤ 200) = y := ⟨_, rfl⟩
    obtain ⟨p3, hp3⟩ : ∃ y, decide ((300 : Int) < (n : Int)) = y := ⟨_, rfl⟩
    obtain ⟨p4, hp4⟩ : ∃ y, decide ((300 : Int) < (m : Int)) = y := ⟨_, rfl⟩
    have e1 : p1 = decide (30 < n) := by rw [← hp1]; exact decide_eq_decide.2 (by omega)
    have e2 : p2 = decide (n ≤ 200) := by rw [← hp2]; exact decide_eq_decide.2 (by omega)
    have e3 : p3 = decide (300 < n) := by rw [← hp3]; exact decide_eq_decide.2 (by omega)
    have e4 : p4 = decide (300 < m) := by rw [← hp4]; exact decide_eq_decide.2 (by omega)
    have HZ : Hid ((p1 && p2 || p3 || p4) = x) := Lib.hid (by rw [e1, e2, e3, e4]; exact HX.out)
    clear e1 e2 e3 e4 HX
    first | (have hq : p1 = true := by rw [← hp1]; exact decide_eq_true (by omega)) | (have hq : p1 = false := by rw [← hp1]; exact decide_eq_false (by omega))
    first | (have hq2 : p2 = true := by rw [← hp2]; exact decide_eq_true (by omega)) | (have hq2 : p2 = false := by rw [← hp2]; exact decide_eq_false (by omega))
    first | (have hq3 : p3 = true := by rw [← hp3]; exact decide_eq_true (by omega)) | (have hq3 : p3 = false := by rw [← hp3]; exact decide_eq_false (by omega))
    first | (have hq4 : p4 = true := by rw [← hp4]; exact decide_eq_true (by omega)) | (have hq4 : p4 = false := by rw [← hp4]; exact decide_eq_false (by omega))
    subst hq hq2 hq3 hq4
    go_enter Try.func33, Try.ntmps33
    go_wp2_with fail
    go_returns
    exact ⟨ret_b HZ.out, rfl⟩

set_option maxRecDepth 100000 in
set_option maxHeartbeats 6400000 in
theorem runs4_great {bs : List Bk} {ts cs : List Int} {at1 at2 : Option Addr} {n m c1 c2 : Nat} {v : Value} {w : World} (h : 20 < bs.length) (hn : Hid (ts.length = n)) (hm : Hid (cs.length = m)) (h1 : IsB w v bs) (hi : Ints w .u64 at1 c1 ts) (hj : Ints w .i64 at2 c2 cs) :
    Calls Try.prog 6 #[v, .slice at1 n c1, .slice at2 m c2] w fun e w' => e = .returned (.bool true) ∧ Below w.heap.size w w' := by
  have i1 : n ≤ c1 := by have := hi.room; have := hn.out; omega
  have i2 := hi.most
  have j1 : m ≤ c2 := by have := hj.room; have := hm.out; omega
  have j2 := hj.most
  have H1 := Lib.hid h1
  have J1 := Lib.hid hj
  have hg := Lib.hid (show decide (20 < (bs.length : Int)) = true from decide_eq_true (by omega))
  clear h
  go_enter Try.func6, Try.ntmps6
  go_wp2_with fail
  refine (great_is hg H1.out).mono ?_
  rintro e w1 ⟨rfl, hb⟩
  have hB1 : Below w.heap.size w w1 := below_thru (by go_grown) hb
  have hs1 := hB1.size
  clear hb
  go_wp2_with fail
  go_returns
  exact ⟨rfl, hB1⟩

set_option maxRecDepth 100000 in
set_option maxHeartbeats 6400000 in
theorem runs4_long {bs : List Bk} {ts cs : List Int} {at1 at2 : Option Addr} {n m c1 c2 : Nat} {v : Value} {w : World} (h : bs.length ≤ 20) (hx : Hid ((decide (30 < n) && decide (n ≤ 200) || decide (300 < n) || decide (300 < m)) = true)) (hn : Hid (ts.length = n)) (hm : Hid (cs.length = m)) (h1 : IsB w v bs) (hi : Ints w .u64 at1 c1 ts) (hj : Ints w .i64 at2 c2 cs) :
    Calls Try.prog 6 #[v, .slice at1 n c1, .slice at2 m c2] w fun e w' => e = .returned (.bool true) ∧ Below w.heap.size w w' := by
  have i1 : n ≤ c1 := by have := hi.room; have := hn.out; omega
  have i2 := hi.most
  have j1 : m ≤ c2 := by have := hj.room; have := hm.out; omega
  have j2 := hj.most
  have H1 := Lib.hid h1
  have J1 := Lib.hid hj
  have hg := Lib.hid (show decide (20 < (bs.length : Int)) = false from decide_eq_false (by omega))
  clear h
  go_enter Try.func6, Try.ntmps6
  go_wp2_with fail
  refine (great_is hg H1.out).mono ?_
  rintro e w1 ⟨rfl, hb⟩
  have hB1 : Below w.heap.size w w1 := below_thru (by go_grown) hb
  have hs1 := hB1.size
  clear hb
  go_wp2_with fail
  refine (long_is _ (by omega) (by omega) hx).mono ?_
  rintro e _ ⟨rfl, rfl⟩
  go_wp2_with fail
  go_returns
  exact ⟨rfl, hB1⟩

theorem IsB.bks {w : World} {a : Option Addr} {n c : Nat} {bs : List Bk} (h : IsB w (.slice a n c) bs) : Bks w a c bs := by
  obtain ⟨a', c', e, hb⟩ := h
  injection e with e1 e2 e3
  subst e1 e3
  exact hb

set_option maxRecDepth 100000 in
set_option maxHeartbeats 12800000 in
theorem runs4_main {bs : List Bk} {ts cs : List Int} {at1 at2 : Option Addr} {n m c1 c2 : Nat} {v : Value} {w : World} {zs : List Bk} {aa : List Bool} {er : Int} (h : bs.length ≤ 20) (hx : Hid ((decide (30 < n) && decide (n ≤ 200) || decide (300 < n) || decide (300 < m)) = false)) (con1 : Hid (∀ W, IsB W v bs → Ints W .u64 at1 c1 ts → Ints W .i64 at2 c2 cs → Calls Try.prog 23 #[v, .slice at1 n c1, .slice at2 m c2] W (GivesRun zs aa er W))) (con2 : Hid (∀ W, IsB W v bs → Ints W .u64 at1 c1 ts → Ints W .i64 at2 c2 cs → Calls Try.prog 34 #[v, .slice at1 n c1, .slice at2 m c2] W (GivesRun zs aa er W))) (hn : Hid (ts.length = n)) (hm : Hid (cs.length = m)) (h1 : IsB w v bs) (hi : Ints w .u64 at1 c1 ts) (hj : Ints w .i64 at2 c2 cs) :
    Calls Try.prog 6 #[v, .slice at1 n c1, .slice at2 m c2] w fun e w' => e = .returned (.bool true) ∧ Below w.heap.size w w' := by
  have i1 : n ≤ c1 := by have := hi.room; have := hn.out; omega
  have i2 := hi.most
  have j1 : m ≤ c2 := by have := hj.room; have := hm.out; omega
  have j2 := hj.most
  have H1 := Lib.hid h1
  have J1 := Lib.hid hj
  obtain ⟨nb, hnb⟩ : ∃ y, bs.length = y := ⟨_, rfl⟩
  have hn20 : nb ≤ 20 := by omega
  have hg := Lib.hid (show decide (20 < (bs.length : Int)) = false from decide_eq_false (by omega))
  obtain ⟨a0, k0, rfl, q0, z0, HB⟩ := h1.openN hnb
  have HNB := Lib.hid hnb
  obtain ⟨nz, hnz⟩ : ∃ y, zs.length = y := ⟨_, rfl⟩
  have HLZ := Lib.hid hnz
  have I1 := Lib.hid hi
  clear h1 hi hj hnb hnz h
  obtain ⟨ti, hin, hz0, hz1, hz2⟩ := info_parts info_bucket
  go_enter Try.func6, Try.ntmps6
  go_wp2_with fail
  refine (great_is hg H1.out).mono ?_
  rintro e w1 ⟨rfl, hb⟩
  have hB1 : Below w.heap.size w w1 := below_thru (by go_grown) hb
  have hs1 := hB1.size
  have H1_ : Hid (IsB w1 (.slice a0 nb k0) bs) := Lib.hid (by first | exact H1.out.below hb | exact (H1.out.alloc _).below hb | exact ((H1.out.alloc _).alloc _).below hb | exact (((H1.out.alloc _).alloc _).alloc _).below hb | exact H1.out.drew.below hb)
  clear H1; have H1 := H1_; clear H1_
  have I1_ : Hid (Ints w1 .u64 at1 c1 ts) := Lib.hid (by first | exact I1.out.below hb | exact (I1.out.alloc _).below hb | exact ((I1.out.alloc _).alloc _).below hb | exact (((I1.out.alloc _).alloc _).alloc _).below hb | exact I1.out.drew.below hb)
  clear I1; have I1 := I1_; clear I1_
  have J1_ : Hid (Ints w1 .i64 at2 c2 cs) := Lib.hid (by first | exact J1.out.below hb | exact (J1.out.alloc _).below hb | exact ((J1.out.alloc _).alloc _).below hb | exact (((J1.out.alloc _).alloc _).alloc _).below hb | exact J1.out.drew.below hb)
  clear J1; have J1 := J1_; clear J1_
  have HB_ : Hid (Bks w1 a0 k0 bs) := Lib.hid (by first | exact HB.out.below hb | exact (HB.out.alloc _).below hb | exact ((HB.out.alloc _).alloc _).below hb | exact (((HB.out.alloc _).alloc _).alloc _).below hb | exact HB.out.drew.below hb)
  clear HB; have HB := HB_; clear HB_
  clear hb
  go_wp2_with fail
  refine (long_is _ (by omega) (by omega) hx).mono ?_
  rintro e w1 ⟨rfl, rfl⟩
  go_wp2_with (at_builtin; refine wpList_append_row (by rfl) _ _ 39 (by rfl) w.heap.size 26 ti _ 48 Try.underlying39 hin hz0 hz1 hz2 rfl _ 0 [] (by rfl) (own_empty hs1) a0 k0 nb bs HNB.out (by rfl) (HB.out.alloc _) (by unfold maxLen; omega) (by omega) (by simp; omega) ?_; intro v9 w9 hown9 hgrow)
  have hb0 := ((Below.refl w1.heap.size w1).alloc (Nat.le_refl _) (.cells #[] 26)).grown hgrow (by simp) (own_blocks (own_empty (e := 26) (Nat.le_refl _)))
  have hB9 : Below w.heap.size w w9 := below_thru hB1 hb0
  have hs9 := hB9.size
  have O9 : Hid (OwnB w.heap.size w9 v9 bs) := Lib.hid (by
    unfold OwnB
    rw [HNB.out]
    simpa using hown9)
  have H9 := Lib.hid (H1.out.below hb0)
  have I9 := Lib.hid (I1.out.below hb0)
  have J9 := Lib.hid (J1.out.below hb0)
  clear hown9 hgrow HB H1 I1 J1 hb0 hB1 hs1
  refine (con1.out _ H9.out I9.out J9.out).mono ?_
  rintro e w3 ⟨va, ub, rfl, hoa, hub, hb⟩
  have hB3 : Below w9.heap.size w9 w3 := hb
  have hs3 := hB3.size
  have I3 := Lib.hid (I9.out.below hb)
  have J3 := Lib.hid (J9.out.below hb)
  have H3 := Lib.hid (H9.out.below hb)
  have HOA := Lib.hid hoa
  have HUB := Lib.hid hub
  clear hb hoa hub
  go_wp2_with fail
  refine (con2.out _ H3.out I3.out J3.out).mono ?_
  rintro e w4 ⟨vc, ud, rfl, hoc, hud, hb⟩
  have hB4 : Below w9.heap.size w9 w4 := hB3.trans (hb.mono hs3)
  have hs4 := hB4.size
  obtain ⟨ac, kc, rfl, qc, zc, Bc⟩ := hoc.is.openN HLZ.out
  have HOA4 : Hid (OwnB w9.heap.size w4 va zs) := Lib.hid (own_below HOA.out hb)
  have HUB4 : Hid (w4.ownsRow w9.heap.size 4 1 ub aa.length (bools aa)) := Lib.hid (own_below HUB.out hb)
  have HOC := Lib.hid hoc
  have HUD := Lib.hid hud
  have hoa3 := HOA.out
  clear hb hoc hud I3 J3 H3 HOA HUB hB3
  obtain ⟨_, ⟨rfl, h0⟩ | ⟨g, cap, cur, rfl, hg0, hgw, _⟩⟩ := id hoa3
  · have hnz : nz = 0 := by have := HLZ.out; omega
    subst hnz
    have hBw : Below w.heap.size w w4 := hB9.trans (hB4.mono hs9)
    have F1 : Hid (IsV w4 ub (bools aa)) := Lib.hid (IsV.own HUB4.out (bools_len _).symm)
    have F2 : Hid (IsV w4 ud (bools aa)) := Lib.hid (IsV.own HUD.out (bools_len _).symm)
    have F3 := Lib.hid (H9.out.below hB4)
    have F4 := Lib.hid (O9.out.is.below hB4)
    clear hoa3 Bc h0 HOA4 HUB4 HOC HUD
    go_wp2_with fail
    go_loop [14] (fun s14 => s14 = .int .i64 0) (fun _ => 0)
    case atStart => exact rfl
    case round =>
      obtain rfl := hrel
      go_wp2_with fail
      refine (samev_tt F1.out F2.out).mono ?_
      rintro e w5 ⟨rfl, hb⟩
      have hB5 : Below w.heap.size w w5 := below_thru hBw hb
      have G3 := Lib.hid (F3.out.below hb)
      have G4 := Lib.hid (F4.out.below hb)
      clear hb
      go_wp2_with fail
      refine (sameb_tt G3.out G4.out).mono ?_
      rintro e w6 ⟨rfl, hb⟩
      have hB6 : Below w.heap.size w w6 := below_thru hB5 hb
      clear hb
      go_wp2_with fail
      go_returns
      exact ⟨rfl, hB6⟩
  · have hgl : g < w3.heap.size := (hoa3.lt g rfl).2
    have hz8 : zs.length = nz := HLZ.out
    rw [hz8] at *
    have hA4 : Hid (w4.ownsRow w9.heap.size 26 6 (.slice (some ⟨g, 0, none⟩) nz cap) nz (flat (marks zs 0))) := Lib.hid (by
      have := HOA4.out
      unfold OwnB at this
      rw [HLZ.out] at this
      exact this)
    have hnc : nz ≤ 9223372036854775807 := by omega
    have hne : ub.ownBlock ≠ some g := own_apart HOA4.out HUB4.out (by decide) rfl
    clear hoa3 Bc HOA4 hgw hz8
    go_wp2_with fail
    go_loopw [14] (fun s14 wr => ∃ k : Nat, s14 = .int .i64 k ∧ k ≤ nz ∧ Hid (wr.ownsRow w9.heap.size 26 6 (.slice (some ⟨g, 0, none⟩) nz cap) nz (flat (marks zs k))) ∧ Hid (OwnB w3.heap.size wr (.slice ac nz kc) zs) ∧ Hid (wr.ownsRow w9.heap.size 4 1 ub aa.length (bools aa)) ∧ Hid (wr.ownsRow w3.heap.size 4 1 ud aa.length (bools aa)) ∧ Below w9.heap.size w9 wr) (fun s14 _ => nz - (intOf s14).toNat)
    case atStart => exact ⟨0, rfl, by omega, hA4, HOC, HUB4, HUD, hB4⟩
    case round =>
      obtain ⟨k, rfl, hk, HA, HC, HU, HD, hB⟩ := hrel
      clear hA4 HOC HUB4 HUD hB4 hs4
      have hs := hB.size
      by_cases hlt : k < nz
      case neg =>
        obtain ⟨wo, rfl⟩ : ∃ u : World, u = wr := ⟨_, rfl⟩
        have hBw : Below w.heap.size w wo := hB9.trans (hB.mono hs9)
        have F1 : Hid (IsV wo ub (bools aa)) := Lib.hid (IsV.own HU.out (bools_len _).symm)
        have F2 : Hid (IsV wo ud (bools aa)) := Lib.hid (IsV.own HD.out (bools_len _).symm)
        have F3 := Lib.hid (H9.out.below hB)
        have F4 := Lib.hid (O9.out.is.below hB)
        clear HA HC HU HD hB hs
        go_wp2_with fail
        refine (samev_tt F1.out F2.out).mono ?_
        rintro e w5 ⟨rfl, hb⟩
        have hB5 : Below w.heap.size w w5 := below_thru hBw hb
        have G3 := Lib.hid (F3.out.below hb)
        have G4 := Lib.hid (F4.out.below hb)
        clear hb
        go_wp2_with fail
        refine (sameb_tt G3.out G4.out).mono ?_
        rintro e w6 ⟨rfl, hb⟩
        have hB6 : Below w.heap.size w w6 := below_thru hB5 hb
        clear hb
        go_wp2_with fail
        go_returns
        exact ⟨rfl, hB6⟩
      case pos =>
        have hlz : k < zs.length := by have := HLZ.out; omega
        obtain ⟨⟨bu, ra, pe, le, pt, a⟩, ebk⟩ : ∃ x, bk zs k = x := ⟨_, rfl⟩
        obtain ⟨b2, o2, _, _, _, _, _, _, rfl, ebk2, D0, D1, D2, D3, D4, D5⟩ := (HC.out.is.bks).at hlz
        rw [ebk] at ebk2
        cases ebk2
        have hcl : ∀ j x, j < 6 → (Bk.vals ⟨bu, ra, pe, le, pt, a⟩)[j]? = some x → wr.cell? ⟨g, k * 6 + j, none⟩ = some x := fun j x hj hx => by
          rw [HA.out.cellAt (k * 6 + j) (by omega)]
          refine flat_at (by rw [marks_len]; exact hlz) ?_
          rw [marks_at hlz, ebk]
          exact hx
        have A0 := hcl 0 _ (by omega) rfl
        rw [Nat.add_zero] at A0
        have A1 := hcl 1 _ (by omega) rfl
        have A2 := hcl 2 _ (by omega) rfl
        have A3 := hcl 3 _ (by omega) rfl
        have A4 := hcl 4 _ (by omega) rfl
        have A5 := hcl 5 _ (by omega) rfl
        have hfz := HA.out.frozenAt (k * 6 + 3)
        have S1 := Lib.hid (show (wr.setCell ⟨g, k * 6 + 3, none⟩ (.int .i64 (-1))).ownsRow w9.heap.size 26 6 (.slice (some ⟨g, 0, none⟩) nz cap) nz (flat (marks zs (k + 1))) by
          have := (HA.out.stored (k * 6 + 3) (.int .i64 (-1))).1
          rwa [marks_succ hlz] at this)
        have S2 := Lib.hid (show OwnB w3.heap.size (wr.setCell ⟨g, k * 6 + 3, none⟩ (.int .i64 (-1))) (.slice (some ⟨b2, o2, none⟩) nz kc) zs from ownsRow_setCell_below HC.out (a := ⟨g, k * 6 + 3, none⟩) hgl (.int .i64 (-1)))
        have S3 := Lib.hid (ownsRow_setCell_other HU.out (a := ⟨g, k * 6 + 3, none⟩) hne (.int .i64 (-1)))
        have S4 := Lib.hid (ownsRow_setCell_below HD.out (a := ⟨g, k * 6 + 3, none⟩) hgl (.int .i64 (-1)))
        have S5 := Lib.hid (hB.setCell (p := ⟨g, k * 6 + 3, none⟩) hg0 (.int .i64 (-1)))
        have hkn : (k : Int) < (nz : Int) := by omega
        have hk0 : (0 : Int) ≤ (k : Int) := by omega
        have hgr : g < wr.heap.size := (HA.out.lt g rfl).2
        have hb2 := lt_of_cell D0
        clear hcl ebk HA HC HU HD hB hs
        go_wp2_with fail
        go_quiet (fail)
        go_wp2_with fail
        go_roundw
        case rel => exact ⟨k + 1, by go_num, by omega, Lib.hid S1.out, Lib.hid S2.out, Lib.hid S3.out, Lib.hid S4.out, below_drewN S5.out nq⟩
        case measure => simp [intOf]; omega

theorem runs4_any {bs : List Bk} {ts cs : List Int} {at1 at2 : Option Addr} {c1 c2 : Nat} {v : Value} {w : World} (h1 : IsB w v bs) (hu : ∀ b ∈ bs, isU b.a) (hi : Ints w .u64 at1 c1 ts) (ht : ∀ k, k < ts.length → isU (nth ts k)) (hj : Ints w .i64 at2 c2 cs) (hc : ∀ k, k < cs.length → tickI (nth cs k)) :
    Calls Try.prog 6 #[v, .slice at1 ts.length c1, .slice at2 cs.length c2] w fun e w' => e = .returned (.bool true) ∧ Below w.heap.size w w' := by
  have hn : Hid (ts.length = ts.length) := Lib.hid rfl
  have hm : Hid (cs.length = cs.length) := Lib.hid rfl
  rcases Nat.lt_or_ge 20 bs.length with q | q
  · exact runs4_great q hn hm h1 hi hj
  · cases hx : (decide (30 < ts.length) && decide (ts.length ≤ 200) || decide (300 < ts.length) || decide (300 < cs.length)) with
    | true => exact runs4_long q (Lib.hid hx) hn hm h1 hi hj
    | false =>
      have HX := Lib.hid hx
      by_cases h : rowE bs = 0
      · rcases runE_cases ts cs with ⟨a, e⟩ | ⟨a, b, e⟩ | ⟨a, b, e⟩
        · have hcc : runC bs ts cs = 4 := by unfold runC; rw [h, e]; rfl
          exact runs4_main q HX (Lib.hid fun W x y z => lrun_no (Lib.hid hcc) (by omega) x y z) (Lib.hid fun W x y z => rrun_many (Lib.hid h) a hn hm x y z) hn hm h1 hi hj
        · have hcc : runC bs ts cs = 2 := by unfold runC; rw [h, e]; rfl
          exact runs4_main q HX (Lib.hid fun W x y z => lrun_no (Lib.hid hcc) (by omega) x y z) (Lib.hid fun W x y z => rrun_arg (Lib.hid h) a (Lib.hid b) hn hm x y z) hn hm h1 hi hj
        · have he : Entries ts cs := ⟨a, (cosB_yes b).1, ht, (cosB_yes b).2⟩
          exact runs4_main q HX (Lib.hid fun W x y z => lrun_ok (Row.of h hu) he (Lib.hid rfl) (Lib.hid rfl) x y z) (Lib.hid fun W x y z => rrun_ok (Row.of h hu) he (fun k hk => (hc k hk).2) (Lib.hid rfl) (Lib.hid rfl) hn hm x y z) hn hm h1 hi hj
      · have hcc : runC bs ts cs = rowE bs := by unfold runC orI; rw [if_neg h]
        exact runs4_main q HX (Lib.hid fun W x y z => lrun_no (Lib.hid hcc) h x y z) (Lib.hid fun W x y z => rrun_row (Lib.hid rfl) h hn hm x y z) hn hm h1 hi hj

end Go.Proofs.Ytmpcpflpcfanjaa
