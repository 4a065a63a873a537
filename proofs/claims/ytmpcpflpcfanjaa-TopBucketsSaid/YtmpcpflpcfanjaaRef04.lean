/-
  The reference of layer 4, walked.
-/
import Derived.Test.YtmpcpflpcfanjaaLev04D
import Derived.Test.YtmpcpflpcfanjaaRef03F
import Derived.Deep.QuietTactic
import Derived.BigQuiet
namespace Go.Proofs.Ytmpcpflpcfanjaa
open Go.RowKit

/-- The least level of a row. -/
def least (bs : List Bk) : Int := (bs.map Bk.le).foldl min 9223372036854775807
theorem least_snoc (bs : List Bk) (b : Bk) : least (bs ++ [b]) = min (least bs) b.le := by
  unfold least
  rw [List.map_append, List.foldl_append]
  rfl
theorem foldl_min : ∀ (l : List Int) (m : Int), l.foldl min m ≤ m ∧ (∀ x ∈ l, l.foldl min m ≤ x) ∧ (l.foldl min m = m ∨ l.foldl min m ∈ l) := by
  intro l
  induction l with
  | nil => intro m; exact ⟨Int.le_refl _, fun x hx => absurd hx (by simp), .inl rfl⟩
  | cons y l ih =>
    intro m
    obtain ⟨h1, h2, h3⟩ := ih (min m y)
    have e : (y :: l).foldl min m = l.foldl min (min m y) := rfl
    rw [e]
    refine ⟨by omega, fun x hx => ?_, ?_⟩
    · rcases List.mem_cons.1 hx with rfl | hx
      · omega
      · exact h2 x hx
    · rcases h3 with h3 | h3
      · rw [h3]
        by_cases q : m ≤ y
        · exact .inl (by omega)
        · exact .inr (List.mem_cons.2 (.inl (by omega)))
      · exact .inr (List.mem_cons.2 (.inr h3))
theorem least_holds {bs : List Bk} {c : Int} (hc : c ≤ 9223372036854775807) : decide (c ≤ least bs) = holdB c bs := by
  obtain ⟨h1, h2, h3⟩ := foldl_min (bs.map Bk.le) 9223372036854775807
  have hl : least bs = (bs.map Bk.le).foldl min 9223372036854775807 := rfl
  rw [← hl] at h1 h2 h3
  cases e : holdB c bs with
  | true =>
    refine decide_eq_true ?_
    rcases h3 with h3 | h3
    · omega
    · obtain ⟨b, hb, eb⟩ := List.mem_map.1 h3
      have := holdB_yes e b hb
      omega
  | false =>
    refine decide_eq_false fun q => ?_
    have : holdB c bs = true := holdB_mk fun b hb => by
      have := h2 b.le (List.mem_map_of_mem hb)
      omega
    rw [e] at this
    cases this
theorem flat_append (a b : List Bk) : flat (a ++ b) = flat a ++ flat b := by unfold flat; simp
theorem flat_set (A B : List Bk) (b : Bk) (x : Int) : (flat (A ++ b :: B)).set (A.length * 6 + 3) (.int .i64 x) = flat (A ++ ⟨b.bu, b.ra, b.pe, x, b.pt, b.a⟩ :: B) := by
  rw [flat_append, flat_append, List.set_append_right _ _ (by rw [flat_len]; omega), flat_len]
  congr 1
  have e : A.length * 6 + 3 - A.length * 6 = 3 := by omega
  rw [e]
  have e2 : ∀ y : Bk, flat (y :: B) = y.vals ++ flat B := fun y => by unfold flat; simp
  rw [e2, e2]
  rfl
/-- A row, its first buckets charged. -/
def chgK (fs : List Bk) (c : Int) (k : Nat) : List Bk := (fs.take k).map (Bk.chg c) ++ fs.drop k
theorem chgK_succ {fs : List Bk} {c : Int} {k : Nat} (h : k < fs.length) {bu ra pe L Q T : Int} (eb : bk fs k = ⟨bu, ra, pe, L, Q, T⟩) : (flat (chgK fs c k)).set (k * 6 + 3) (.int .i64 (L - c)) = flat (chgK fs c (k + 1)) := by
  have e1 : fs.drop k = bk fs k :: fs.drop (k + 1) := by rw [List.drop_eq_getElem_cons h, bk_get h]
  have e2 : ((fs.take k).map (Bk.chg c)).length = k := by simp; omega
  have := flat_set ((fs.take k).map (Bk.chg c)) (fs.drop (k + 1)) (bk fs k) (L - c)
  rw [e2] at this
  unfold chgK
  rw [e1, this, take_succ_bk h, List.map_append, List.append_assoc, eb]
  rfl
theorem chgK_len (fs : List Bk) (c : Int) (k : Nat) : (chgK fs c k).length = fs.length := by unfold chgK; simp; omega
theorem chgK_at {fs : List Bk} {c : Int} {k : Nat} (h : k < fs.length) : bk (chgK fs c k) k = bk fs k := by
  have e2 : ((fs.take k).map (Bk.chg c)).length = k := by simp; omega
  rw [bk_get (by rw [chgK_len]; exact h), bk_get h]
  unfold chgK
  rw [List.getElem_append_right (by omega), List.getElem_drop]
  congr 1
  omega

set_option maxRecDepth 100000 in
set_option maxHeartbeats 3200000 in
theorem rfilledr {bs : List Bk} {t : Int} {v : Value} {w : World} (hr : Row bs) (ht : isU t) (h1 : IsB w v bs) :
    Calls Try.prog 62 #[v, .int .u64 t] w (GivesR (bs.map (Bk.fil t)) w) := by
  obtain ⟨at0, cap, rfl, hb⟩ := h1
  have i1 := hb.room
  have i2 := hb.most
  have i3 := hr.len
  have HB := Lib.hid hb
  have HR := Lib.hid hr
  clear hb hr
  obtain ⟨ti, hin, hz0, hz1, hz2⟩ := info_parts info_bucket
  go_enter Try.func62, Try.ntmps62
  go_wp2_with fail
  go_loopw [5, 6] (fun s5 s6 wr => ∃ k : Nat, s6 = .int .i64 k ∧ k ≤ bs.length ∧ wr.ownsRow w.heap.size 26 6 s5 k (flat ((bs.take k).map (Bk.fil t))) ∧ Below w.heap.size w wr) (fun _ s6 _ => bs.length - (intOf s6).toNat)
  case atStart => exact ⟨0, rfl, by omega, ownsB_none, Below.refl _ _⟩
  case round =>
    obtain ⟨k, rfl, hk, hown, hB⟩ := hrel
    have hs := hB.size
    by_cases hlt : k < bs.length
    case neg =>
      have hke : k = bs.length := by omega
      have HO : Hid (OwnB w.heap.size wr u5 (bs.map (Bk.fil t))) := Lib.hid (by
        unfold OwnB
        rw [hke, List.take_length] at hown
        rw [List.length_map]
        exact hown)
      clear hown hke
      go_wp2_with fail
      go_returns
      exact ⟨_, rfl, HO.out, hB⟩
    case pos =>
      obtain ⟨b, off, bu, ra, pe, le, pt, a, rfl, ebk, C0, C1, C2, C3, C4, C5⟩ := HB.out.at hlt
      have zb := lt_of_cell C0
      have hbuc : Buc bu ra pe le pt a := by have := HR.out.at hlt; rw [ebk] at this; exact this
      obtain ⟨L, e1⟩ : ∃ x, filL bu ra pe le pt a t = x := ⟨_, rfl⟩
      obtain ⟨Q, e2⟩ : ∃ x, filP bu ra pe le pt a t = x := ⟨_, rfl⟩
      obtain ⟨T, e3⟩ : ∃ x, filA a t = x := ⟨_, rfl⟩
      have HS : Hid (flat ((bs.take (k + 1)).map (Bk.fil t)) = flat ((bs.take k).map (Bk.fil t)) ++ [.int .i64 bu, .int .i64 ra, .int .i64 pe, .int .i64 L, .int .i64 Q, .int .u64 T]) := Lib.hid (by
        rw [take_succ_bk hlt, List.map_append, List.map_singleton, flat_snoc, ebk, ← e1, ← e2, ← e3]
        rfl)
      have E1 := Lib.hid e1
      have E2 := Lib.hid e2
      have E3 := Lib.hid e3
      have BU := Lib.hid hbuc
      clear e1 e2 e3 hbuc ebk
      have c0 := cell_below hB C0
      have c1 := cell_below hB C1
      have c2 := cell_below hB C2
      have c3 := cell_below hB C3
      have c4 := cell_below hB C4
      have c5 := cell_below hB C5
      go_wp2_with fail
      refine (rfilled_any BU.out ht E1 E2 E3 _).mono ?_
      rintro e w1 ⟨rfl, hb⟩
      have hB1 : Below w.heap.size w w1 := below_thru (by go_grown) hb
      have hs1 : w.heap.size ≤ w1.heap.size := hB1.size
      have hown1 := own_below hown hb
      clear hb hown c0 c1 c2 c3 c4 c5 hB hs
      go_wp2_with (at_builtin; refine wpList_append_own _ rfl _ _ 39 rfl w.heap.size 26 ti _ 6 48 Try.underlying39 hin hz0 hz1 hz2 rfl (by decide) _ _ _ rfl (hown1.alloc _) ⟨w1.heap.size, 0, none⟩ 1 1 [.int .i64 bu, .int .i64 ra, .int .i64 pe, .int .i64 L, .int .i64 Q, .int .u64 T] rfl rfl (World.news_of_block (cs := #[.int .i64 bu, .int .i64 ra, .int .i64 pe, .int .i64 L, .int .i64 Q, .int .u64 T]) (t := 26) (fr := (0, 0)) (heap_alloc_new w1 _)) (by simp [Value.oneCell']) (by unfold maxLen; omega) (by omega) (by simp; omega) ?_; intro v9 w9 hown9 hgrow _)
      have hB9 := (hB1.alloc hs1 (.cells #[.int .i64 bu, .int .i64 ra, .int .i64 pe, .int .i64 L, .int .i64 Q, .int .u64 T] 26)).grown hgrow (by simp; omega) (own_blocks (hown1.alloc (.cells #[.int .i64 bu, .int .i64 ra, .int .i64 pe, .int .i64 L, .int .i64 Q, .int .u64 T] 26)))
      rw [← HS.out] at hown9
      go_roundw
      case rel => exact ⟨k + 1, by go_num, by omega, hown9, hB9⟩
      case measure => simp [intOf]; omega

set_option maxRecDepth 100000 in
set_option maxHeartbeats 3200000 in
theorem rleast_is {bs : List Bk} {n : Int} {v : Value} {w : World} (h : Hid (least bs = n)) (h1 : IsB w v bs) :
    Calls Try.prog 64 #[v] w fun e w' => e = .returned (.int .i64 n) ∧ Below w.heap.size w w' := by
  obtain ⟨at0, cap, rfl, hb⟩ := h1
  have i1 := hb.room
  have i2 := hb.most
  have HB := Lib.hid hb
  clear hb
  go_enter Try.func64, Try.ntmps64
  go_wp2_with fail
  go_loop [3, 4] (fun s3 s4 => ∃ (k : Nat) (m : Int), s3 = .int .i64 m ∧ s4 = .int .i64 k ∧ k ≤ bs.length ∧ Hid (least (bs.take k) = m)) (fun _ s4 => bs.length - (intOf s4).toNat)
  case atStart => exact ⟨0, _, rfl, rfl, by omega, Lib.hid rfl⟩
  case round =>
    obtain ⟨k, m, rfl, rfl, hk, HM⟩ := hrel
    by_cases hlt : k < bs.length
    case neg =>
      have HN := Lib.hid (show m = n by
        obtain rfl : k = bs.length := by omega
        rw [← HM.out, List.take_length]
        exact h.out)
      go_wp2_with fail
      go_returns
      exact ⟨ret_i HN.out, Below.refl _ _⟩
    case pos =>
      obtain ⟨b, off, bu, ra, pe, le, pt, a, rfl, ebk, C0, C1, C2, C3, C4, C5⟩ := HB.out.at hlt
      have zb := lt_of_cell C0
      have HS := Lib.hid (show least (bs.take (k + 1)) = min m le by rw [take_succ_bk hlt, least_snoc, HM.out, ebk])
      clear ebk C0 C1 C2 C4 C5
      go_wp2_with fail
      go_round
      case rel => exact ⟨k + 1, _, rfl, by go_num, by omega, HS⟩
      case measure => simp [intOf]; omega

set_option maxRecDepth 100000 in
set_option maxHeartbeats 3200000 in
theorem rasked_is {bs : List Bk} {n c : Int} {v : Value} {w : World} (h : Hid (askE bs c = n)) (h1 : IsB w v bs) :
    Calls Try.prog 63 #[v, .int .i64 c] w fun e w' => e = .returned (.int .i64 n) ∧ Below w.heap.size w w' := by
  obtain ⟨r, er⟩ : ∃ x, rowE bs = x := ⟨_, rfl⟩
  have hE := h.out
  unfold askE at hE
  rw [er, costE_one] at hE
  have HE := Lib.hid er
  have H1 := Lib.hid h1
  clear er h1 h
  by_cases hr : r = 0
  · subst hr
    have hE : (if c < 0 then 2 else 0) = n := hE
    have HQ : Hid (rowE bs = 0) := HE
    by_cases hc : c < 0
    · rw [if_pos hc] at hE
      subst hE
      have d1 : decide (c < 0) = true := decide_eq_true hc
      go_enter Try.func63, Try.ntmps63
      go_wp2_with fail
      refine (rcheckr_is HQ H1.out).mono ?_
      rintro e w1 ⟨rfl, hb⟩
      have hB1 : Below w.heap.size w w1 := below_thru (by go_grown) hb
      have hs1 := hB1.size
      clear hb
      go_wp2_with fail
      go_returns
      exact ⟨rfl, hB1⟩
    · rw [if_neg hc] at hE
      subst hE
      have d1 : decide (c < 0) = false := decide_eq_false hc
      go_enter Try.func63, Try.ntmps63
      go_wp2_with fail
      refine (rcheckr_is HQ H1.out).mono ?_
      rintro e w1 ⟨rfl, hb⟩
      have hB1 : Below w.heap.size w w1 := below_thru (by go_grown) hb
      have hs1 := hB1.size
      clear hb
      go_wp2_with fail
      go_returns
      exact ⟨rfl, hB1⟩
  · have d1 : (r != 0) = true := by simp [hr]
    have HN := Lib.hid (show r = n by rw [← hE]; unfold orI; rw [if_neg hr])
    clear hE hr
    go_enter Try.func63, Try.ntmps63
    go_wp2_with fail
    refine (rcheckr_is HE H1.out).mono ?_
    rintro e w1 ⟨rfl, hb⟩
    have hB1 : Below w.heap.size w w1 := below_thru (by go_grown) hb
    have hs1 := hB1.size
    have H1_ : Hid (IsB w1 v bs) := Lib.hid (by first | exact H1.out.below hb | exact (H1.out.alloc _).below hb | exact ((H1.out.alloc _).alloc _).below hb | exact (((H1.out.alloc _).alloc _).alloc _).below hb | exact H1.out.drew.below hb)
    clear H1; have H1 := H1_; clear H1_
    clear hb
    go_wp2_with fail
    refine (rcheckr_is HE H1.out).mono ?_
    rintro e w2 ⟨rfl, hb⟩
    have hB2 : Below w.heap.size w w2 := below_thru (by go_grown) hb
    have hs2 := hB2.size
    have H1_ : Hid (IsB w2 v bs) := Lib.hid (by first | exact H1.out.below hb | exact (H1.out.alloc _).below hb | exact ((H1.out.alloc _).alloc _).below hb | exact (((H1.out.alloc _).alloc _).alloc _).below hb | exact H1.out.drew.below hb)
    clear H1; have H1 := H1_; clear H1_
    clear hb
    clear hB1 hs1
    go_wp2_with fail
    go_returns
    exact ⟨ret_i HN.out, hB2⟩

set_option maxRecDepth 100000 in
set_option maxHeartbeats 3200000 in
theorem rrefillr_no {bs : List Bk} {n t : Int} {v : Value} {w : World} (h : Hid (rowE bs = n)) (hn : n ≠ 0) (h1 : IsB w v bs) :
    Calls Try.prog 28 #[v, .int .u64 t] w (GivesRE [] n w) := by
  have d1 := wrong_ne hn
  have H1 := Lib.hid h1
  clear h1
  go_enter Try.func28, Try.ntmps28
  go_wp2_with fail
  refine (rcheckr_is h H1.out).mono ?_
  rintro e w1 ⟨rfl, hb⟩
  have hB1 : Below w.heap.size w w1 := below_thru (by go_grown) hb
  have hs1 := hB1.size
  have H1_ : Hid (IsB w1 v bs) := Lib.hid (by first | exact H1.out.below hb | exact (H1.out.alloc _).below hb | exact ((H1.out.alloc _).alloc _).below hb | exact (((H1.out.alloc _).alloc _).alloc _).below hb | exact H1.out.drew.below hb)
  clear H1; have H1 := H1_; clear H1_
  clear hb
  go_wp2_with fail
  refine (rcheckr_is h H1.out).mono ?_
  rintro e w2 ⟨rfl, hb⟩
  have hB2 : Below w.heap.size w w2 := below_thru (by go_grown) hb
  have hs2 := hB2.size
  have H1_ : Hid (IsB w2 v bs) := Lib.hid (by first | exact H1.out.below hb | exact (H1.out.alloc _).below hb | exact ((H1.out.alloc _).alloc _).below hb | exact (((H1.out.alloc _).alloc _).alloc _).below hb | exact H1.out.drew.below hb)
  clear H1; have H1 := H1_; clear H1_
  clear hb
  clear hB1 hs1
  go_wp2_with fail
  go_returns
  exact ⟨_, rfl, OwnB.nil, hB2⟩

set_option maxRecDepth 100000 in
set_option maxHeartbeats 3200000 in
theorem rrefillr_ok {bs fs : List Bk} {t : Int} {v : Value} {w : World} (hr : Row bs) (ht : isU t) (hf : Hid (bs.map (Bk.fil t) = fs)) (h1 : IsB w v bs) :
    Calls Try.prog 28 #[v, .int .u64 t] w (GivesRE fs 0 w) := by
  have h := Lib.hid hr.e
  have HR := Lib.hid hr
  have H1 := Lib.hid h1
  have con : ∀ W V, IsB W V bs → Calls Try.prog 62 #[V, .int .u64 t] W (GivesR fs W) := fun W V h => by rw [← hf.out]; exact rfilledr hr ht h
  have HCON := Lib.hid con
  clear con hr h1
  go_enter Try.func28, Try.ntmps28
  go_wp2_with fail
  refine (rcheckr_is h H1.out).mono ?_
  rintro e w1 ⟨rfl, hb⟩
  have hB1 : Below w.heap.size w w1 := below_thru (by go_grown) hb
  have hs1 := hB1.size
  have H1_ : Hid (IsB w1 v bs) := Lib.hid (by first | exact H1.out.below hb | exact (H1.out.alloc _).below hb | exact ((H1.out.alloc _).alloc _).below hb | exact (((H1.out.alloc _).alloc _).alloc _).below hb | exact H1.out.drew.below hb)
  clear H1; have H1 := H1_; clear H1_
  clear hb
  go_wp2_with fail
  refine (HCON.out _ _ H1.out).mono ?_
  rintro e w2 ⟨v2, rfl, ho, hb⟩
  have hB2 : Below w.heap.size w w2 := below_thru (by go_grown) hb
  have hs2 := hB2.size
  have H1_ : Hid (IsB w2 v bs) := Lib.hid (by first | exact H1.out.below hb | exact (H1.out.alloc _).below hb | exact ((H1.out.alloc _).alloc _).below hb | exact (((H1.out.alloc _).alloc _).alloc _).below hb | exact H1.out.drew.below hb)
  clear H1; have H1 := H1_; clear H1_
  have O2 : Hid (OwnB w.heap.size w2 v2 (fs)) := Lib.hid (ho.base (by first | omega | (simp; omega)))
  clear ho
  clear hb
  clear hB1 hs1
  go_wp2_with fail
  go_returns
  exact ⟨_, rfl, O2.out, hB2⟩

set_option maxRecDepth 100000 in
set_option maxHeartbeats 3200000 in
theorem rholdr_no {bs : List Bk} {n c : Int} {v : Value} {w : World} (h : Hid (askE bs c = n)) (hn : n ≠ 0) (h1 : IsB w v bs) :
    Calls Try.prog 29 #[v, .int .i64 c] w fun e w' => e = .returned (.tuple #[.bool false, .int .i64 n]) ∧ Below w.heap.size w w' := by
  have d1 := wrong_ne hn
  have H1 := Lib.hid h1
  clear h1
  go_enter Try.func29, Try.ntmps29
  go_wp2_with fail
  refine (rasked_is h H1.out).mono ?_
  rintro e w1 ⟨rfl, hb⟩
  have hB1 : Below w.heap.size w w1 := below_thru (by go_grown) hb
  have hs1 := hB1.size
  have H1_ : Hid (IsB w1 v bs) := Lib.hid (by first | exact H1.out.below hb | exact (H1.out.alloc _).below hb | exact ((H1.out.alloc _).alloc _).below hb | exact (((H1.out.alloc _).alloc _).alloc _).below hb | exact H1.out.drew.below hb)
  clear H1; have H1 := H1_; clear H1_
  clear hb
  go_wp2_with fail
  refine (rasked_is h H1.out).mono ?_
  rintro e w2 ⟨rfl, hb⟩
  have hB2 : Below w.heap.size w w2 := below_thru (by go_grown) hb
  have hs2 := hB2.size
  have H1_ : Hid (IsB w2 v bs) := Lib.hid (by first | exact H1.out.below hb | exact (H1.out.alloc _).below hb | exact ((H1.out.alloc _).alloc _).below hb | exact (((H1.out.alloc _).alloc _).alloc _).below hb | exact H1.out.drew.below hb)
  clear H1; have H1 := H1_; clear H1_
  clear hb
  clear hB1 hs1
  go_wp2_with fail
  go_returns
  exact ⟨rfl, hB2⟩

set_option maxRecDepth 100000 in
set_option maxHeartbeats 3200000 in
theorem rtaker_no {bs : List Bk} {n c t : Int} {v : Value} {w : World} (h : Hid (askE bs c = n)) (hn : n ≠ 0) (h1 : IsB w v bs) :
    Calls Try.prog 30 #[v, .int .u64 t, .int .i64 c] w (GivesRBE [] false n w) := by
  have d1 := wrong_ne hn
  have H1 := Lib.hid h1
  clear h1
  go_enter Try.func30, Try.ntmps30
  go_wp2_with fail
  refine (rasked_is h H1.out).mono ?_
  rintro e w1 ⟨rfl, hb⟩
  have hB1 : Below w.heap.size w w1 := below_thru (by go_grown) hb
  have hs1 := hB1.size
  have H1_ : Hid (IsB w1 v bs) := Lib.hid (by first | exact H1.out.below hb | exact (H1.out.alloc _).below hb | exact ((H1.out.alloc _).alloc _).below hb | exact (((H1.out.alloc _).alloc _).alloc _).below hb | exact H1.out.drew.below hb)
  clear H1; have H1 := H1_; clear H1_
  clear hb
  go_wp2_with fail
  refine (rasked_is h H1.out).mono ?_
  rintro e w2 ⟨rfl, hb⟩
  have hB2 : Below w.heap.size w w2 := below_thru (by go_grown) hb
  have hs2 := hB2.size
  have H1_ : Hid (IsB w2 v bs) := Lib.hid (by first | exact H1.out.below hb | exact (H1.out.alloc _).below hb | exact ((H1.out.alloc _).alloc _).below hb | exact (((H1.out.alloc _).alloc _).alloc _).below hb | exact H1.out.drew.below hb)
  clear H1; have H1 := H1_; clear H1_
  clear hb
  clear hB1 hs1
  go_wp2_with fail
  go_returns
  exact ⟨_, rfl, OwnB.nil, hB2⟩

set_option maxRecDepth 100000 in
set_option maxHeartbeats 3200000 in
theorem rwaitr_no {bs : List Bk} {n c : Int} {v : Value} {w : World} (h : Hid (askE bs c = n)) (hn : n ≠ 0) (h1 : IsB w v bs) :
    Calls Try.prog 31 #[v, .int .i64 c] w fun e w' => e = .returned (.tuple #[.int .u64 0, .int .i64 n]) ∧ Below w.heap.size w w' := by
  have d1 := wrong_ne hn
  have H1 := Lib.hid h1
  clear h1
  go_enter Try.func31, Try.ntmps31
  go_wp2_with fail
  refine (rasked_is h H1.out).mono ?_
  rintro e w1 ⟨rfl, hb⟩
  have hB1 : Below w.heap.size w w1 := below_thru (by go_grown) hb
  have hs1 := hB1.size
  have H1_ : Hid (IsB w1 v bs) := Lib.hid (by first | exact H1.out.below hb | exact (H1.out.alloc _).below hb | exact ((H1.out.alloc _).alloc _).below hb | exact (((H1.out.alloc _).alloc _).alloc _).below hb | exact H1.out.drew.below hb)
  clear H1; have H1 := H1_; clear H1_
  clear hb
  go_wp2_with fail
  refine (rasked_is h H1.out).mono ?_
  rintro e w2 ⟨rfl, hb⟩
  have hB2 : Below w.heap.size w w2 := below_thru (by go_grown) hb
  have hs2 := hB2.size
  have H1_ : Hid (IsB w2 v bs) := Lib.hid (by first | exact H1.out.below hb | exact (H1.out.alloc _).below hb | exact ((H1.out.alloc _).alloc _).below hb | exact (((H1.out.alloc _).alloc _).alloc _).below hb | exact H1.out.drew.below hb)
  clear H1; have H1 := H1_; clear H1_
  clear hb
  clear hB1 hs1
  go_wp2_with fail
  go_returns
  exact ⟨rfl, hB2⟩

set_option maxRecDepth 100000 in
set_option maxHeartbeats 3200000 in
theorem rholdr_ok {bs : List Bk} {c : Int} {x : Bool} {v : Value} {w : World} (h : rowE bs = 0) (h0 : 0 ≤ c) (hm : c ≤ 9223372036854775807) (hx : Hid (holdB c bs = x)) (h1 : IsB w v bs) :
    Calls Try.prog 29 #[v, .int .i64 c] w fun e w' => e = .returned (.tuple #[.bool x, .int .i64 0]) ∧ Below w.heap.size w w' := by
  have HE := Lib.hid (askE_ok h h0)
  obtain ⟨n, en⟩ : ∃ n, least bs = n := ⟨_, rfl⟩
  have HX := Lib.hid (show decide (c ≤ n) = x by rw [← en, least_holds hm]; exact hx.out)
  have HN := Lib.hid en
  have H1 := Lib.hid h1
  clear en h1 h hx
  go_enter Try.func29, Try.ntmps29
  go_wp2_with fail
  refine (rasked_is HE H1.out).mono ?_
  rintro e w1 ⟨rfl, hb⟩
  have hB1 : Below w.heap.size w w1 := below_thru (by go_grown) hb
  have hs1 := hB1.size
  have H1_ : Hid (IsB w1 v bs) := Lib.hid (by first | exact H1.out.below hb | exact (H1.out.alloc _).below hb | exact ((H1.out.alloc _).alloc _).below hb | exact (((H1.out.alloc _).alloc _).alloc _).below hb | exact H1.out.drew.below hb)
  clear H1; have H1 := H1_; clear H1_
  clear hb
  go_wp2_with fail
  refine (rleast_is HN H1.out).mono ?_
  rintro e w2 ⟨rfl, hb⟩
  have hB2 : Below w.heap.size w w2 := below_thru (by go_grown) hb
  have hs2 := hB2.size
  have H1_ : Hid (IsB w2 v bs) := Lib.hid (by first | exact H1.out.below hb | exact (H1.out.alloc _).below hb | exact ((H1.out.alloc _).alloc _).below hb | exact (((H1.out.alloc _).alloc _).alloc _).below hb | exact H1.out.drew.below hb)
  clear H1; have H1 := H1_; clear H1_
  clear hb
  clear hB1 hs1
  go_wp2_with fail
  go_returns
  exact ⟨by rw [← HX.out]; rfl, hB2⟩

set_option maxRecDepth 100000 in
set_option maxHeartbeats 3200000 in
theorem rwaitr_ok {bs : List Bk} {c n : Int} {v : Value} {w : World} (hr : Row bs) (h0 : 0 ≤ c) (hn : Hid (wts c bs = n)) (h1 : IsB w v bs) :
    Calls Try.prog 31 #[v, .int .i64 c] w fun e w' => e = .returned (.tuple #[.int .u64 n, .int .i64 0]) ∧ Below w.heap.size w w' := by
  have HE := Lib.hid (askE_ok hr.e h0)
  have HR := Lib.hid hr
  obtain ⟨at0, cap, rfl, hb⟩ := h1
  have i1 := hb.room
  have i2 := hb.most
  have h1 : IsB w (.slice at0 bs.length cap) bs := ⟨at0, cap, rfl, hb⟩
  have H1 := Lib.hid h1
  have HB := Lib.hid hb
  clear h1 hb hr
  go_enter Try.func31, Try.ntmps31
  go_wp2_with fail
  refine (rasked_is HE H1.out).mono ?_
  rintro e w1 ⟨rfl, hb⟩
  have hB1 : Below w.heap.size w w1 := below_thru (by go_grown) hb
  have hs1 := hB1.size
  clear hb
  go_wp2_with fail
  go_loopw [6, 7] (fun s7 s24 wr => ∃ (k : Nat) (m : Int), s7 = .int .u64 m ∧ s24 = .int .i64 k ∧ k ≤ bs.length ∧ Hid (wts c (bs.take k) = m) ∧ Below w.heap.size w wr) (fun _ s24 _ => bs.length - (intOf s24).toNat)
  case atStart => exact ⟨0, 0, rfl, rfl, by omega, Lib.hid rfl, hB1⟩
  case round =>
    obtain ⟨k, m, rfl, rfl, hk, HM, hB⟩ := hrel
    clear hB1 hs1
    have hs := hB.size
    by_cases hlt : k < bs.length
    case neg =>
      have HN := Lib.hid (show m = n by
        obtain rfl : k = bs.length := by omega
        rw [← HM.out, List.take_length]
        exact hn.out)
      go_wp2_with fail
      go_returns
      exact ⟨ret_u0 HN.out, hB⟩
    case pos =>
      obtain ⟨b, off, bu, ra, pe, le, pt, a, rfl, ebk, C0, C1, C2, C3, C4, C5⟩ := HB.out.at hlt
      have zb := lt_of_cell C0
      have hbuc : Buc bu ra pe le pt a := by have := HR.out.at hlt; rw [ebk] at this; exact this
      have hwt : IsWait bu ra pe le pt a c (Bk.wt c ⟨bu, ra, pe, le, pt, a⟩) := by have := (HR.out.at hlt).wt c; rw [ebk] at this; exact this
      have hsn : wts c (bs.take (k + 1)) = max m (Bk.wt c ⟨bu, ra, pe, le, pt, a⟩) := by rw [take_succ_bk hlt, wts_snoc, HM.out, ebk]
      obtain ⟨y, ey⟩ : ∃ x, Bk.wt c ⟨bu, ra, pe, le, pt, a⟩ = x := ⟨_, rfl⟩
      rw [ey] at hwt hsn
      have HW := Lib.hid hwt
      have BU := Lib.hid hbuc
      have HS := Lib.hid hsn
      clear hwt hbuc ey ebk hsn
      have c0 := cell_below hB C0
      have c1 := cell_below hB C1
      have c2 := cell_below hB C2
      have c3 := cell_below hB C3
      have c4 := cell_below hB C4
      have c5 := cell_below hB C5
      go_wp2_with fail
      refine (rwaited_is BU.out HW _).mono ?_
      rintro e w2 ⟨rfl, hb⟩
      have hB2 : Below w.heap.size w w2 := below_thru (by go_grown) hb
      clear hb
      go_wp2_with fail
      go_roundw
      case rel => exact ⟨k + 1, _, rfl, by go_num, by omega, HS, hB2⟩
      case measure => simp [intOf]; omega

set_option maxRecDepth 100000 in
set_option maxHeartbeats 3200000 in
theorem rtaken_no {bs zs : List Bk} {t c : Int} {v : Value} {w : World} (hr : Row bs) (ht : isU t) (h0 : 0 ≤ c) (hm : c ≤ 9223372036854775807) (hv : Hid (takV bs t c = zs)) (hx : Hid (takB bs t c = false)) (h1 : IsB w v bs) :
    Calls Try.prog 65 #[v, .int .u64 t, .int .i64 c] w (GivesRB zs false w) := by
  have _ := h0
  obtain ⟨fs, ef⟩ : ∃ y, bs.map (Bk.fil t) = y := ⟨_, rfl⟩
  have hf := hr.fil ht
  rw [ef] at hf
  obtain ⟨n, en⟩ : ∃ n, least fs = n := ⟨_, rfl⟩
  have hxx : holdB c fs = false := by have := hx.out; unfold takB at this; rw [ef] at this; exact this
  have hcn : decide (c ≤ n) = false := by rw [← en, least_holds hm, hxx]
  have HN := Lib.hid en
  have HF := Lib.hid hf
  have EF := Lib.hid ef
  have HR := Lib.hid hr
  have H1 := Lib.hid h1
  have con : ∀ W V, IsB W V bs → Calls Try.prog 62 #[V, .int .u64 t] W (GivesR fs W) := fun W V h => by rw [← EF.out]; exact rfilledr HR.out ht h
  have HCON := Lib.hid con
  have EV : Hid (fs = zs) := Lib.hid (by rw [← hv.out]; unfold takV; rw [ef, hxx]; rfl)
  have d1 : decide (n < c) = true := by
    have := of_decide_eq_false hcn
    exact decide_eq_true (by omega)
  have HXX := Lib.hid hxx
  clear hf en ef hr h1 hv hx con hcn hxx
  go_enter Try.func65, Try.ntmps65
  go_wp2_with fail
  refine (HCON.out _ _ H1.out).mono ?_
  rintro e w1 ⟨v1, rfl, ho, hb⟩
  have hB1 : Below w.heap.size w w1 := below_thru (by go_grown) hb
  have hs1 := hB1.size
  have O1 : Hid (OwnB w.heap.size w1 v1 (fs)) := Lib.hid (ho.base (by first | omega | (simp; omega)))
  clear ho
  clear hb
  go_wp2_with fail
  refine (rleast_is HN O1.out.is).mono ?_
  rintro e w2 ⟨rfl, hb⟩
  have hB2 : Below w.heap.size w w2 := below_thru (by go_grown) hb
  have hs2 := hB2.size
  have O1_ : Hid (OwnB w.heap.size w2 v1 (fs)) := Lib.hid (by first | exact O1.out.below hb | exact (O1.out.alloc _).below hb | exact ((O1.out.alloc _).alloc _).below hb | exact (((O1.out.alloc _).alloc _).alloc _).below hb | exact O1.out.drew.below hb)
  clear O1; have O1 := O1_; clear O1_
  clear hb
  clear hB1 hs1
  have O3 : Hid (OwnB w.heap.size w2 v1 zs) := Lib.hid (by rw [← EV.out]; exact O1.out)
  clear O1
  go_wp2_with fail
  go_returns
  exact ⟨_, rfl, O3.out, hB2⟩

set_option maxRecDepth 100000 in
set_option maxHeartbeats 6400000 in
theorem rtaken_yes {bs zs : List Bk} {t c : Int} {v : Value} {w : World} (hr : Row bs) (ht : isU t) (h0 : 0 ≤ c) (hm : c ≤ 9223372036854775807) (hv : Hid (takV bs t c = zs)) (hx : Hid (takB bs t c = true)) (h1 : IsB w v bs) :
    Calls Try.prog 65 #[v, .int .u64 t, .int .i64 c] w (GivesRB zs true w) := by
  have _ := h0
  obtain ⟨fs, ef⟩ : ∃ y, bs.map (Bk.fil t) = y := ⟨_, rfl⟩
  have hf := hr.fil ht
  rw [ef] at hf
  obtain ⟨n, en⟩ : ∃ n, least fs = n := ⟨_, rfl⟩
  have hxx : holdB c fs = true := by have := hx.out; unfold takB at this; rw [ef] at this; exact this
  have hcn : decide (c ≤ n) = true := by rw [← en, least_holds hm, hxx]
  have HN := Lib.hid en
  have HF := Lib.hid hf
  have EF := Lib.hid ef
  have HR := Lib.hid hr
  have H1 := Lib.hid h1
  have con : ∀ W V, IsB W V bs → Calls Try.prog 62 #[V, .int .u64 t] W (GivesR fs W) := fun W V h => by rw [← EF.out]; exact rfilledr HR.out ht h
  have HCON := Lib.hid con
  have EV : Hid (fs.map (Bk.chg c) = zs) := Lib.hid (by rw [← hv.out]; unfold takV; rw [ef, hxx]; rfl)
  have d1 : decide (n < c) = false := by
    have := of_decide_eq_true hcn
    exact decide_eq_false (by omega)
  have HXX := Lib.hid hxx
  clear hf en ef hr h1 hv hx con hcn hxx
  obtain ⟨m, hml⟩ : ∃ m, fs.length = m := ⟨_, rfl⟩
  have hm8 : m ≤ 8 := by have := HF.out.len; omega
  have HL := Lib.hid hml
  clear hml
  go_enter Try.func65, Try.ntmps65
  go_wp2_with fail
  refine (HCON.out _ _ H1.out).mono ?_
  rintro e w1 ⟨v1, rfl, ho, hb⟩
  have hB1 : Below w.heap.size w w1 := below_thru (by go_grown) hb
  have hs1 := hB1.size
  have O1 : Hid (OwnB w.heap.size w1 v1 (fs)) := Lib.hid (ho.base (by first | omega | (simp; omega)))
  clear ho
  clear hb
  go_wp2_with fail
  refine (rleast_is HN O1.out.is).mono ?_
  rintro e w2 ⟨rfl, hb⟩
  have hB2 : Below w.heap.size w w2 := below_thru (by go_grown) hb
  have hs2 := hB2.size
  have O1_ : Hid (OwnB w.heap.size w2 v1 (fs)) := Lib.hid (by first | exact O1.out.below hb | exact (O1.out.alloc _).below hb | exact ((O1.out.alloc _).alloc _).below hb | exact (((O1.out.alloc _).alloc _).alloc _).below hb | exact O1.out.drew.below hb)
  clear O1; have O1 := O1_; clear O1_
  clear hb
  clear hB1 hs1
  have hown : w2.ownsRow w.heap.size 26 6 v1 m (flat fs) := by rw [← HL.out]; exact O1.out
  clear O1
  obtain ⟨_, ⟨rfl, hm0⟩ | ⟨g, cap, cur, rfl, hg, _⟩⟩ := id hown
  · subst hm0
    have O4 : Hid (OwnB w.heap.size w2 (.slice none 0 0) zs) := Lib.hid (by
      rw [← EV.out, List.eq_nil_of_length_eq_zero HL.out]
      exact OwnB.nil)
    clear hown
    go_wp2_with fail
    go_rounds 1
    go_returns
    exact ⟨_, rfl, O4.out, hB2⟩
  · have i1 : m ≤ 9223372036854775807 := by omega
    go_wp2_with fail
    go_loopw [9] (fun s9 wr => ∃ k : Nat, s9 = .int .i64 k ∧ k ≤ m ∧ wr.ownsRow w.heap.size 26 6 (.slice (some ⟨g, 0, none⟩) m cap) m (flat (chgK fs c k)) ∧ Below w.heap.size w wr) (fun s9 _ => m - (intOf s9).toNat)
    case atStart => exact ⟨0, rfl, by omega, hown, hB2⟩
    case round =>
      obtain ⟨k, rfl, hk, hown, hB⟩ := hrel
      have hs := hB.size
      have hgl := (hown.lt g rfl).2
      by_cases hlt : k < m
      case neg =>
        have O4 : Hid (OwnB w.heap.size wr (.slice (some ⟨g, 0, none⟩) m cap) zs) := Lib.hid (by
          unfold OwnB
          have e : chgK fs c k = zs := by
            rw [← EV.out]
            unfold chgK
            rw [List.take_of_length_le (by have := HL.out; omega), List.drop_of_length_le (by have := HL.out; omega), List.append_nil]
          have e2 : zs.length = m := by rw [← e, chgK_len, HL.out]
          rw [e] at hown
          rw [e2]
          exact hown)
        clear hown
        go_wp2_with fail
        go_returns
        exact ⟨_, rfl, O4.out, hB⟩
      case pos =>
        have hlf : k < fs.length := by have := HL.out; omega
        obtain ⟨⟨bu, ra, pe, L, Q, T⟩, ebk⟩ : ∃ x, bk fs k = x := ⟨_, rfl⟩
        have hbuc : Buc bu ra pe L Q T := by have := HF.out.at hlf; rw [ebk] at this; exact this
        have hcl : c ≤ L := by have := holdB_yes HXX.out _ (bk_mem hlf); rw [ebk] at this; exact this
        have hll : L ≤ 1000000000 := by have := hbuc.l1; have := hbuc.nums; omega
        have hst := hown.stored (k * 6 + 3) (.int .i64 (L - c))
        rw [chgK_succ hlf ebk] at hst
        have hcell : wr.cell? ⟨g, k * 6 + 3, none⟩ = some (.int .i64 L) := by
          rw [hown.cellAt (k * 6 + 3) (by omega)]
          refine flat_at (by rw [chgK_len]; exact hlf) ?_
          rw [chgK_at hlf, ebk]
          rfl
        have hfz := hown.frozenAt (k * 6 + 3)
        have hB3 := hB.setCell (p := ⟨g, k * 6 + 3, none⟩) hg (.int .i64 (L - c))
        have hkn : (k : Int) < (m : Int) := by omega
        have HST := Lib.hid hst
        have HB3 := Lib.hid hB3
        clear hst hB3 ebk hbuc
        go_wp2_with fail
        go_roundw
        case rel => exact ⟨k + 1, by go_num, by omega, HST.out.1, HB3.out⟩
        case measure => simp [intOf]; omega
theorem rtaken_is {bs zs : List Bk} {t c : Int} {x : Bool} {v : Value} {w : World} (hr : Row bs) (ht : isU t) (h0 : 0 ≤ c) (hm : c ≤ 9223372036854775807) (hv : Hid (takV bs t c = zs)) (hx : Hid (takB bs t c = x)) (h1 : IsB w v bs) :
    Calls Try.prog 65 #[v, .int .u64 t, .int .i64 c] w (GivesRB zs x w) := by
  cases x with
  | false => exact rtaken_no hr ht h0 hm hv hx h1
  | true => exact rtaken_yes hr ht h0 hm hv hx h1

set_option maxRecDepth 100000 in
set_option maxHeartbeats 3200000 in
theorem rtaker_ok {bs zs : List Bk} {t c : Int} {x : Bool} {v : Value} {w : World} (hr : Row bs) (ht : isU t) (h0 : 0 ≤ c) (hm : c ≤ 9223372036854775807) (hv : Hid (takV bs t c = zs)) (hx : Hid (takB bs t c = x)) (h1 : IsB w v bs) :
    Calls Try.prog 30 #[v, .int .u64 t, .int .i64 c] w (GivesRBE zs x 0 w) := by
  have HE := Lib.hid (askE_ok hr.e h0)
  have HR := Lib.hid hr
  have H1 := Lib.hid h1
  clear hr h1
  go_enter Try.func30, Try.ntmps30
  go_wp2_with fail
  refine (rasked_is HE H1.out).mono ?_
  rintro e w1 ⟨rfl, hb⟩
  have hB1 : Below w.heap.size w w1 := below_thru (by go_grown) hb
  have hs1 := hB1.size
  have H1_ : Hid (IsB w1 v bs) := Lib.hid (by first | exact H1.out.below hb | exact (H1.out.alloc _).below hb | exact ((H1.out.alloc _).alloc _).below hb | exact (((H1.out.alloc _).alloc _).alloc _).below hb | exact H1.out.drew.below hb)
  clear H1; have H1 := H1_; clear H1_
  clear hb
  go_wp2_with fail
  refine (rtaken_is HR.out ht h0 hm hv hx H1.out).mono ?_
  rintro e w2 ⟨v2, rfl, ho, hb⟩
  have hB2 : Below w.heap.size w w2 := below_thru (by go_grown) hb
  have hs2 := hB2.size
  have H1_ : Hid (IsB w2 v bs) := Lib.hid (by first | exact H1.out.below hb | exact (H1.out.alloc _).below hb | exact ((H1.out.alloc _).alloc _).below hb | exact (((H1.out.alloc _).alloc _).alloc _).below hb | exact H1.out.drew.below hb)
  clear H1; have H1 := H1_; clear H1_
  have O2 : Hid (OwnB w.heap.size w2 v2 (zs)) := Lib.hid (ho.base (by first | omega | (simp; omega)))
  clear ho
  clear hb
  clear hB1 hs1
  go_wp2_with fail
  go_returns
  exact ⟨_, rfl, O2.out, hB2⟩

set_option maxRecDepth 100000 in
set_option maxHeartbeats 3200000 in
theorem sameb_tt {bs : List Bk} {v1 v2 : Value} {w : World} (h1 : IsB w v1 bs) (h2 : IsB w v2 bs) :
    Calls Try.prog 25 #[v1, v2] w fun e w' => e = .returned (.bool true) ∧ Below w.heap.size w w' := by
  obtain ⟨at0, cap, rfl, hb⟩ := h1
  have i1 := hb.room
  have i2 := hb.most
  obtain ⟨at2, cap2, rfl, hb2⟩ := h2
  have j1 := hb2.room
  have j2 := hb2.most
  have HB := Lib.hid hb
  have HC := Lib.hid hb2
  clear hb hb2
  go_enter Try.func25, Try.ntmps25
  go_wp2_with fail
  go_loopw [5] (fun s5 wr => ∃ k : Nat, s5 = .int .i64 k ∧ k ≤ bs.length ∧ Below w.heap.size w wr) (fun s5 _ => bs.length - (intOf s5).toNat)
  case atStart => exact ⟨0, rfl, by omega, Below.refl _ _⟩
  case round =>
    obtain ⟨k, rfl, hk, hB⟩ := hrel
    have hs := hB.size
    by_cases hlt : k < bs.length
    case neg =>
      go_wp2_with fail
      go_returns
      exact ⟨rfl, hB⟩
    case pos =>
      obtain ⟨b, off, bu, ra, pe, le, pt, a, rfl, ebk, C0, C1, C2, C3, C4, C5⟩ := HB.out.at hlt
      have zb := lt_of_cell C0
      obtain ⟨b2, off2, _, _, _, _, _, _, rfl, ebk2, D0, D1, D2, D3, D4, D5⟩ := HC.out.at hlt
      rw [ebk] at ebk2
      cases ebk2
      have zd := lt_of_cell D0
      have hkn : (k : Int) < (bs.length : Int) := by omega
      have hk0 : (0 : Int) ≤ (k : Int) := by omega
      clear ebk
      have c0 := cell_below hB C0
      have c1 := cell_below hB C1
      have c2 := cell_below hB C2
      have c3 := cell_below hB C3
      have c4 := cell_below hB C4
      have c5 := cell_below hB C5
      have d0 := cell_below hB D0
      have d1 := cell_below hB D1
      have d2 := cell_below hB D2
      have d3 := cell_below hB D3
      have d4 := cell_below hB D4
      have d5 := cell_below hB D5
      go_wp2_with fail
      go_quiet (fail)
      go_wp2_with fail
      go_roundw
      case rel => exact ⟨k + 1, by go_num, by omega, below_drewN hB nq⟩
      case measure => simp [intOf]; omega

end Go.Proofs.Ytmpcpflpcfanjaa
