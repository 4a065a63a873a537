/-
  LevelsAll, walked over the contracts of packages levels and bucket: it returns true.
-/
import Derived.Test.YtmpcpflpcfanjaaLev04D
import Derived.Deep.QuietTactic
import Derived.BigQuiet

namespace Go.Proofs.Ytmpcpflpcfanjaa
open Go.RowKit

theorem IsB.openN {w : World} {v : Value} {bs : List Bk} {n : Nat} (h : IsB w v bs) (hl : bs.length = n) : ∃ at0 cap, v = .slice at0 n cap ∧ n ≤ cap ∧ cap ≤ 9223372036854775807 ∧ Hid (Bks w at0 cap bs) := by
  obtain ⟨at0, cap, rfl, hb⟩ := h
  subst hl
  exact ⟨at0, cap, rfl, hb.room, hb.most, Lib.hid hb⟩
theorem IsB.ofN {w : World} {at0 : Option Addr} {cap n : Nat} {bs : List Bk} (h : Bks w at0 cap bs) (hl : bs.length = n) : IsB w (.slice at0 n cap) bs := by
  subst hl
  exact ⟨at0, cap, rfl, h⟩
theorem Bks.atv {w : World} {at0 : Option Addr} {cap : Nat} {bs : List Bk} (h : Bks w at0 cap bs) {i : Nat} (hi : i < bs.length) {bu ra pe le pt a : Int} (eb : bk bs i = ⟨bu, ra, pe, le, pt, a⟩) :
    ∃ b off, at0 = some ⟨b, off, Option.none⟩ ∧ w.cell? ⟨b, off + i * 6, Option.none⟩ = some (.int .i64 bu) ∧ w.cell? ⟨b, off + i * 6 + 1, Option.none⟩ = some (.int .i64 ra) ∧ w.cell? ⟨b, off + i * 6 + 2, Option.none⟩ = some (.int .i64 pe) ∧
      w.cell? ⟨b, off + i * 6 + 3, Option.none⟩ = some (.int .i64 le) ∧ w.cell? ⟨b, off + i * 6 + 4, Option.none⟩ = some (.int .i64 pt) ∧ w.cell? ⟨b, off + i * 6 + 5, Option.none⟩ = some (.int .u64 a) := by
  obtain ⟨b, off, e, hc⟩ := h.cells (by omega)
  have hc := hc i hi
  rw [eb] at hc
  exact ⟨b, off, e, hc 0 _ rfl, hc 1 _ rfl, hc 2 _ rfl, hc 3 _ rfl, hc 4 _ rfl, hc 5 _ rfl⟩
theorem lrefill_is {bs fs : List Bk} {t : Int} {v : Value} {w : World} (hr : Row bs) (ht : isU t) (hf : Hid (bs.map (Bk.fil t) = fs)) (h1 : IsB w v bs) :
    Calls Try.prog 19 #[v, .int .u64 t] w (GivesRE fs 0 w) := by
  rw [← hf.out]
  exact lrefill_ok hr ht h1
theorem holdB_snoc (c : Int) (l : List Bk) (b : Bk) : holdB c (l ++ [b]) = (holdB c l && decide (c ≤ b.le)) := by unfold holdB; simp
theorem holdB_rev (c : Int) (l : List Bk) : holdB c l.reverse = holdB c l := by unfold holdB; simp
theorem takB_rev (bs : List Bk) (t c : Int) : takB bs.reverse t c = takB bs t c := by unfold takB; rw [List.map_reverse, holdB_rev]
theorem takV_rev (bs : List Bk) (t c : Int) : takV bs.reverse t c = (takV bs t c).reverse := by
  unfold takV
  rw [List.map_reverse, holdB_rev]
  split
  · rw [List.map_reverse]
  · rfl
theorem Row.rev {bs : List Bk} (h : Row bs) : Row bs.reverse := ⟨by simpa using h.len, fun b hb => h.ok b (by simpa using hb)⟩
theorem bk_rev {bs : List Bk} {k : Nat} (h : k < bs.length) : bk bs.reverse (bs.length - 1 - k) = bk bs k := by
  rw [bk_get (by simp; omega), bk_get h, List.getElem_reverse]
  congr 1
  omega
theorem drop_bk {bs : List Bk} {i : Nat} (h : i < bs.length) : (bs.drop i).reverse = (bs.drop (i + 1)).reverse ++ [bk bs i] := by
  rw [List.drop_eq_getElem_cons h, List.reverse_cons, bk_get h]
theorem own_drewN {w : World} {B e s n : Nat} {v : Value} {l : List Value} (h : w.ownsRow B e s v n l) (m : Nat) : (w.drewN m).ownsRow B e s v n l := h

set_option maxRecDepth 100000 in
set_option maxHeartbeats 6400000 in
theorem all4_bad {bs : List Bk} {t c : Int} {v : Value} {w : World} (h : rowE bs ≠ 0) (h1 : IsB w v bs) :
    Calls Try.prog 7 #[v, .int .u64 t, .int .i64 c] w fun e w' => e = .returned (.bool true) ∧ Below w.heap.size w w' := by
  go_enter Try.func7, Try.ntmps7
  go_wp2_with fail
  refine (fit_no h h1).mono ?_
  rintro e w1 ⟨rfl, hb⟩
  have hB1 : Below w.heap.size w w1 := below_thru (by go_grown) hb
  have hs1 := hB1.size
  clear hb
  go_wp2_with fail
  refine (alive04_any _).mono ?_
  rintro e w2 ⟨rfl, hb⟩
  have hB2 : Below w.heap.size w w2 := below_thru (by go_grown) hb
  have hs2 := hB2.size
  clear hb
  clear hB1 hs1
  go_wp2_with fail
  go_returns
  exact ⟨rfl, hB2⟩

set_option maxRecDepth 100000 in
set_option maxHeartbeats 6400000 in
theorem all4_neg {bs : List Bk} {t c : Int} {v : Value} {w : World} (h : rowE bs = 0) (hc : c < 0) (h1 : IsB w v bs) :
    Calls Try.prog 7 #[v, .int .u64 t, .int .i64 c] w fun e w' => e = .returned (.bool true) ∧ Below w.heap.size w w' := by
  have d2 : decide (c < 0) = true := decide_eq_true hc
  go_enter Try.func7, Try.ntmps7
  go_wp2_with fail
  refine (fit_yes h h1).mono ?_
  rintro e w1 ⟨rfl, hb⟩
  have hB1 : Below w.heap.size w w1 := below_thru (by go_grown) hb
  have hs1 := hB1.size
  clear hb
  go_wp2_with fail
  refine (alive04_any _).mono ?_
  rintro e w2 ⟨rfl, hb⟩
  have hB2 : Below w.heap.size w w2 := below_thru (by go_grown) hb
  have hs2 := hB2.size
  clear hb
  clear hB1 hs1
  go_wp2_with fail
  go_returns
  exact ⟨rfl, hB2⟩

set_option maxRecDepth 100000 in
set_option maxHeartbeats 12800000 in
theorem all4_yes {bs : List Bk} {t c : Int} {v : Value} {w : World} (hr : Row bs) (ht : isU t) (hc : 0 ≤ c) (hx : takB bs t c = true) (h1 : IsB w v bs) :
    Calls Try.prog 7 #[v, .int .u64 t, .int .i64 c] w fun e w' => e = .returned (.bool true) ∧ Below w.heap.size w w' := by
  obtain ⟨n, hn⟩ : ∃ n, bs.length = n := ⟨_, rfl⟩
  obtain ⟨at0, cap, rfl, i1, i2, HB⟩ := h1.openN hn
  have H1 := Lib.hid h1
  have HL := Lib.hid hn
  have hn8 : n ≤ 8 := by have := hr.len; omega
  obtain ⟨fs, ef⟩ : ∃ y, bs.map (Bk.fil t) = y := ⟨_, rfl⟩
  obtain ⟨zs, ez⟩ : ∃ y, takV bs t c = y := ⟨_, rfl⟩
  have HL3 := Lib.hid (show fs.length = n by rw [← ef, List.length_map, hn])
  have HL2 := Lib.hid (show zs.length = n by rw [← ez, takV_len, hn])
  have HL5 := Lib.hid (show zs.reverse.length = n by rw [List.length_reverse]; exact HL2.out)
  have HRF := Lib.hid (show Row fs by rw [← ef]; exact hr.fil ht)
  have HH := Lib.hid (show holdB c fs = true by rw [← ef]; exact hx)
  have HX := Lib.hid (show takB bs t c = true from hx)
  have HX2 := Lib.hid (show takB bs.reverse t c = true by rw [takB_rev]; exact hx)
  have HV := Lib.hid ez
  have HV2 := Lib.hid (show takV bs.reverse t c = zs.reverse by rw [takV_rev, ez])
  have HZ := Lib.hid (show fs.map (Bk.chg c) = zs by rw [← ez, ← ef]; unfold takV; unfold takB at hx; rw [hx]; rfl)
  have EF := Lib.hid ef
  have HR := Lib.hid hr
  have d2 : decide (c < 0) = false := decide_eq_false (by omega)
  clear h1 hn ef ez hr hx
  obtain ⟨ti, hin, hz0, hz1, hz2⟩ := info_parts info_bucket
  go_enter Try.func7, Try.ntmps7
  go_wp2_with fail
  refine (fit_yes HR.out.e H1.out).mono ?_
  rintro e w1 ⟨rfl, hb⟩
  have hB1 : Below w.heap.size w w1 := below_thru (by go_grown) hb
  have hs1 := hB1.size
  have H1_ : Hid (IsB w1 (.slice at0 n cap) bs) := Lib.hid (by first | exact H1.out.below hb | exact (H1.out.alloc _).below hb | exact ((H1.out.alloc _).alloc _).below hb | exact (((H1.out.alloc _).alloc _).alloc _).below hb | exact H1.out.drew.below hb)
  clear H1; have H1 := H1_; clear H1_
  clear hb
  go_wp2_with fail
  refine (ltake_ok HR.out ht hc HV HX H1.out).mono ?_
  rintro e w2 ⟨v2, rfl, ho, hb⟩
  have hB2 : Below w.heap.size w w2 := below_thru (by go_grown) hb
  have hs2 := hB2.size
  have H1_ : Hid (IsB w2 (.slice at0 n cap) bs) := Lib.hid (by first | exact H1.out.below hb | exact (H1.out.alloc _).below hb | exact ((H1.out.alloc _).alloc _).below hb | exact (((H1.out.alloc _).alloc _).alloc _).below hb | exact H1.out.drew.below hb)
  clear H1; have H1 := H1_; clear H1_
  have O2 : Hid (OwnB w.heap.size w2 v2 (zs)) := Lib.hid (ho.base (by first | omega | (simp; omega)))
  clear ho
  clear hb
  clear hB1 hs1
  go_wp2_with fail
  refine (lrefill_is HR.out ht EF H1.out).mono ?_
  rintro e w3 ⟨v3, rfl, ho, hb⟩
  have hB3 : Below w.heap.size w w3 := below_thru (by go_grown) hb
  have hs3 := hB3.size
  have H1_ : Hid (IsB w3 (.slice at0 n cap) bs) := Lib.hid (by first | exact H1.out.below hb | exact (H1.out.alloc _).below hb | exact ((H1.out.alloc _).alloc _).below hb | exact (((H1.out.alloc _).alloc _).alloc _).below hb | exact H1.out.drew.below hb)
  clear H1; have H1 := H1_; clear H1_
  have O2_ : Hid (OwnB w.heap.size w3 v2 (zs)) := Lib.hid (by first | exact O2.out.below hb | exact (O2.out.alloc _).below hb | exact ((O2.out.alloc _).alloc _).below hb | exact (((O2.out.alloc _).alloc _).alloc _).below hb | exact O2.out.drew.below hb)
  clear O2; have O2 := O2_; clear O2_
  have O3 : Hid (OwnB w.heap.size w3 v3 (fs)) := Lib.hid (ho.base (by first | omega | (simp; omega)))
  clear ho
  clear hb
  clear hB2 hs2
  go_wp2_with fail
  refine (lhold_ok HRF.out.e hc HH O3.out.is).mono ?_
  rintro e w4 ⟨rfl, hb⟩
  have hB4 : Below w.heap.size w w4 := below_thru (by go_grown) hb
  have hs4 := hB4.size
  have H1_ : Hid (IsB w4 (.slice at0 n cap) bs) := Lib.hid (by first | exact H1.out.below hb | exact (H1.out.alloc _).below hb | exact ((H1.out.alloc _).alloc _).below hb | exact (((H1.out.alloc _).alloc _).alloc _).below hb | exact H1.out.drew.below hb)
  clear H1; have H1 := H1_; clear H1_
  have O2_ : Hid (OwnB w.heap.size w4 v2 (zs)) := Lib.hid (by first | exact O2.out.below hb | exact (O2.out.alloc _).below hb | exact ((O2.out.alloc _).alloc _).below hb | exact (((O2.out.alloc _).alloc _).alloc _).below hb | exact O2.out.drew.below hb)
  clear O2; have O2 := O2_; clear O2_
  have O3_ : Hid (OwnB w.heap.size w4 v3 (fs)) := Lib.hid (by first | exact O3.out.below hb | exact (O3.out.alloc _).below hb | exact ((O3.out.alloc _).alloc _).below hb | exact (((O3.out.alloc _).alloc _).alloc _).below hb | exact O3.out.drew.below hb)
  clear O3; have O3 := O3_; clear O3_
  clear hb
  clear hB3 hs3
  obtain ⟨a2, c2, rfl, q2, m2, B2⟩ := O2.out.is.openN HL2.out
  obtain ⟨a3, c3, rfl, q3, m3, B3⟩ := O3.out.is.openN HL3.out
  have B1 := Lib.hid (show Bks w4 at0 cap bs from HB.out.below hB4)
  clear O2 O3
  go_wp2_with fail
  go_loopw [14, 15] (fun s14 s15 wr => ∃ (k : Nat) (y : Bool), s14 = .bool y ∧ s15 = .int .i64 k ∧ k ≤ n ∧ Hid (holdB c (fs.take k) = y) ∧ Below w4.heap.size w4 wr) (fun _ s15 _ => n - (intOf s15).toNat)
  case atStart => exact ⟨0, true, rfl, rfl, by omega, Lib.hid rfl, Below.refl _ _⟩
  case round =>
    obtain ⟨k, y, rfl, rfl, hk, HY, hB⟩ := hrel
    have hs := hB.size
    by_cases hlt : k < n
    case pos =>
      obtain ⟨⟨bu, ra, pe, le, pt, a⟩, ebk⟩ : ∃ x, bk bs k = x := ⟨_, rfl⟩
      have hlb : k < bs.length := by have := HL.out; omega
      have hbuc : Buc bu ra pe le pt a := by have := HR.out.at hlb; rw [ebk] at this; exact this
      obtain ⟨L, e1⟩ : ∃ x, filL bu ra pe le pt a t = x := ⟨_, rfl⟩
      obtain ⟨Q, e2⟩ : ∃ x, filP bu ra pe le pt a t = x := ⟨_, rfl⟩
      obtain ⟨T, e3⟩ : ∃ x, filA a t = x := ⟨_, rfl⟩
      have ebf : bk fs k = ⟨bu, ra, pe, L, Q, T⟩ := by rw [← EF.out, bk_map _ hlb, ebk, ← e1, ← e2, ← e3]; rfl
      have hbf : Buc bu ra pe L Q T := by have := hbuc.filled ht; rw [e1, e2, e3] at this; exact this
      have hll : L ≤ 1000000000 := by have := hbf.l1; have := hbf.nums; omega
      have hsn : holdB c (fs.take (k + 1)) = (y && decide (c ≤ L)) := by rw [take_succ_bk (by have := HL3.out; omega), holdB_snoc, ebf, HY.out]
      have hcl : c ≤ L := by have := holdB_yes HH.out _ (bk_mem (show k < fs.length by have := HL3.out; omega)); rw [ebf] at this; exact this
      obtain ⟨m, e4⟩ : ∃ x, L - c = x := ⟨_, rfl⟩
      have ebz : bk zs k = ⟨bu, ra, pe, m, Q, T⟩ := by rw [← HZ.out, bk_map _ (by have := HL3.out; omega), ebf, ← e4]; rfl
      have HY2 : Hid (holdB c (fs.take (k + 1)) = y) := Lib.hid (by rw [hsn, decide_eq_true hcl, Bool.and_true])
      have E4 := Lib.hid e4
      clear e4
      obtain ⟨b, off, rfl, C0, C1, C2, C3, C4, C5⟩ := B1.out.atv hlb ebk
      obtain ⟨b3, off3, rfl, D0, D1, D2, D3, D4, D5⟩ := B3.out.atv (by have := HL3.out; omega) ebf
      obtain ⟨b2, off2, rfl, G0, G1, G2, G3, G4, G5⟩ := B2.out.atv (by have := HL2.out; omega) ebz
      have zb := lt_of_cell C0
      have zb3 := lt_of_cell D0
      have zb2 := lt_of_cell G0
      have hkn : (k : Int) < (n : Int) := by omega
      have hk0 : (0 : Int) ≤ (k : Int) := by omega
      have E1 := Lib.hid e1
      have E2 := Lib.hid e2
      have E3 := Lib.hid e3
      have BU := Lib.hid hbuc
      have K0 := Lib.hid hbf.ok
      have HSN := Lib.hid hsn
      clear e1 e2 e3 hbuc hbf ebk ebf ebz hsn
      have yt : y = true := by have := HY.out; rw [← this]; exact holdB_mk fun b hb => holdB_yes HH.out b (List.mem_of_mem_take hb)
      subst yt
      clear HSN
      have c0 := cell_below hB C0
      have c1 := cell_below hB C1
      have c2 := cell_below hB C2
      have c3 := cell_below hB C3
      have c4 := cell_below hB C4
      have c5 := cell_below hB C5
      go_wp2_with fail
      refine (refill_ok BU.out ht E1 E2 E3 _).mono ?_
      rintro e w5 ⟨rfl, hb⟩
      have hB5 : Below w4.heap.size w4 w5 := below_thru (by go_grown) hb
      have hs5 := hB5.size
      clear hb c0 c1 c2 c3 c4 c5 hB hs
      go_upto_region 13 with fail
      have hB6 := hB5.alloc hs5 (.cells #[.int .i64 bu, .int .i64 ra, .int .i64 pe, .int .i64 L, .int .i64 Q, .int .u64 T] 26)
      have xb : Box (w5.alloc (.cells #[.int .i64 bu, .int .i64 ra, .int .i64 pe, .int .i64 L, .int .i64 Q, .int .u64 T] 26)) w5.heap.size [.int .i64 bu, .int .i64 ra, .int .i64 pe, .int .i64 L, .int .i64 Q, .int .u64 T] := Box.new rfl
      obtain ⟨w6, h9⟩ : ∃ W, w5.alloc (.cells #[.int .i64 bu, .int .i64 ra, .int .i64 pe, .int .i64 L, .int .i64 Q, .int .u64 T] 26) = W := ⟨_, rfl⟩
      rw [h9] at hB6 xb   ⊢
      clear h9
      have hs_w6 := hB6.size
      clear hB5 hs5
      have fz := xb.lt
      have f0 := xb.c 0 _ rfl
      have f1 := xb.c 1 _ rfl
      have f2 := xb.c 2 _ rfl
      have f3 := xb.c 3 _ rfl
      have f4 := xb.c 4 _ rfl
      have f5 := xb.c 5 _ rfl
      go_wp2_with fail
      refine (charge_is K0 hc hcl hll E4 _).mono ?_
      rintro e w7 ⟨rfl, hb⟩
      have hB7 : Below w4.heap.size w4 w7 := below_thru (by go_grown) hb
      have hs7 := hB7.size
      have xb7 : Box w7 _ [.int .i64 bu, .int .i64 ra, .int .i64 pe, .int .i64 L, .int .i64 Q, .int .u64 T] := xb.below hb
      clear hb hB6 hs_w6 xb fz f0 f1 f2 f3 f4 f5
      go_upto_region 14 with fail
      have hB8 := hB7.alloc hs7 (.cells #[.int .i64 bu, .int .i64 ra, .int .i64 pe, .int .i64 m, .int .i64 Q, .int .u64 T] 26)
      have xc : Box (w7.alloc (.cells #[.int .i64 bu, .int .i64 ra, .int .i64 pe, .int .i64 m, .int .i64 Q, .int .u64 T] 26)) w7.heap.size [.int .i64 bu, .int .i64 ra, .int .i64 pe, .int .i64 m, .int .i64 Q, .int .u64 T] := Box.new rfl
      have xb7 := Box.alloc xb7 (.cells #[.int .i64 bu, .int .i64 ra, .int .i64 pe, .int .i64 m, .int .i64 Q, .int .u64 T] 26)
      obtain ⟨w8, h9⟩ : ∃ W, w7.alloc (.cells #[.int .i64 bu, .int .i64 ra, .int .i64 pe, .int .i64 m, .int .i64 Q, .int .u64 T] 26) = W := ⟨_, rfl⟩
      rw [h9] at hB8 xc xb7  ⊢
      clear h9
      have hs_w8 := hB8.size
      clear hB7 hs7
      have fz := xb7.lt
      have f0 := xb7.c 0 _ rfl
      have f1 := xb7.c 1 _ rfl
      have f2 := xb7.c 2 _ rfl
      have f3 := xb7.c 3 _ rfl
      have f4 := xb7.c 4 _ rfl
      have f5 := xb7.c 5 _ rfl
      have gz := xc.lt
      have g0 := xc.c 0 _ rfl
      have g1 := xc.c 1 _ rfl
      have g2 := xc.c 2 _ rfl
      have g3 := xc.c 3 _ rfl
      have g4 := xc.c 4 _ rfl
      have g5 := xc.c 5 _ rfl
      have d0 := cell_below hB8 D0
      have d1 := cell_below hB8 D1
      have d2 := cell_below hB8 D2
      have d3 := cell_below hB8 D3
      have d4 := cell_below hB8 D4
      have d5 := cell_below hB8 D5
      have o0 := cell_below hB8 G0
      have o1 := cell_below hB8 G1
      have o2 := cell_below hB8 G2
      have o3 := cell_below hB8 G3
      have o4 := cell_below hB8 G4
      have o5 := cell_below hB8 G5
      go_quiet (fail)
      go_wp2_with fail
      go_roundw
      case rel => exact ⟨k + 1, _, rfl, by go_num, by omega, HY2, below_drewN hB8 nq⟩
      case measure => simp [intOf]; omega
    case neg =>
      have hy : y = true := by
        have := HY.out
        rw [List.take_of_length_le (by have := HL3.out; omega), HH.out] at this
        exact this.symm
      subst hy
      obtain ⟨wo, rfl⟩ : ∃ u : World, u = wr := ⟨_, rfl⟩
      have hBw := hB4.trans (hB.mono hs4)
      have P1 := Lib.hid (B1.out.below hB)
      have P2 := Lib.hid (B2.out.below hB)
      have hw4 : w.heap.size ≤ wo.heap.size := hBw.size
      clear HY B1 B2 B3 hB hs hB4 hs4
      go_wp2_with fail
      go_loopw [20, 21] (fun s20 s21 wr => ∃ m : Nat, m ≤ n ∧ s21 = .int .i64 ((m : Int) - 1) ∧ wr.ownsRow wo.heap.size 26 6 s20 (n - m) (flat ((bs.drop m).reverse)) ∧ Below wo.heap.size wo wr) (fun _ s21 _ => (intOf s21 + 1).toNat)
      case atStart => exact ⟨n, by omega, rfl, by rw [List.drop_of_length_le (by have := HL.out; omega), Nat.sub_self]; exact ownsB_none, Below.refl _ _⟩
      case round =>
        obtain ⟨m, hm, hu21, hown, hB⟩ := hrel
        have hs := hB.size
        cases m with
        | succ i =>
          obtain rfl : u21 = .int .i64 (i : Int) := by rw [hu21]; congr 1; omega
          clear hu21
          have hlb : i < bs.length := by have := HL.out; omega
          obtain ⟨⟨bu, ra, pe, le, pt, a⟩, ebk⟩ : ∃ x, bk bs i = x := ⟨_, rfl⟩
          obtain ⟨b, off, rfl, C0, C1, C2, C3, C4, C5⟩ := P1.out.atv hlb ebk
          have zb := lt_of_cell C0
          have HS : Hid (flat ((bs.drop i).reverse) = flat ((bs.drop (i + 1)).reverse) ++ [.int .i64 bu, .int .i64 ra, .int .i64 pe, .int .i64 le, .int .i64 pt, .int .u64 a]) := Lib.hid (by rw [drop_bk hlb, flat_snoc, ebk]; rfl)
          have hin1 : (i : Int) < (n : Int) := by omega
          have hin0 : (0 : Int) ≤ (i : Int) := by omega
          clear ebk
          have c0 := cell_below hB C0
          have c1 := cell_below hB C1
          have c2 := cell_below hB C2
          have c3 := cell_below hB C3
          have c4 := cell_below hB C4
          have c5 := cell_below hB C5
          go_wp2_with (at_builtin; refine wpList_append_own _ rfl _ _ 39 rfl wo.heap.size 26 ti _ 6 48 Try.underlying39 hin hz0 hz1 hz2 rfl (by decide) _ _ _ rfl (hown.alloc _) ⟨wr.heap.size, 0, none⟩ 1 1 [.int .i64 bu, .int .i64 ra, .int .i64 pe, .int .i64 le, .int .i64 pt, .int .u64 a] rfl rfl (World.news_of_block (cs := #[.int .i64 bu, .int .i64 ra, .int .i64 pe, .int .i64 le, .int .i64 pt, .int .u64 a]) (t := 26) (fr := (0, 0)) (heap_alloc_new wr _)) (by simp [Value.oneCell']) (by unfold maxLen; omega) (by omega) (by simp; omega) ?_; intro v9 w9 hown9 hgrow _)
          have hB9 := (hB.alloc hs (.cells #[.int .i64 bu, .int .i64 ra, .int .i64 pe, .int .i64 le, .int .i64 pt, .int .u64 a] 26)).grown hgrow (by simp; omega) (own_blocks (hown.alloc (.cells #[.int .i64 bu, .int .i64 ra, .int .i64 pe, .int .i64 le, .int .i64 pt, .int .u64 a] 26)))
          rw [← HS.out] at hown9
          go_roundw
          case rel => exact ⟨i, by omega, rfl, by rw [show n - i = n - (i + 1) + 1 by omega]; exact hown9, hB9⟩
          case measure => simp [intOf]; try omega
        | zero =>
          obtain rfl : u21 = .int .i64 (-1) := by rw [hu21]; rfl
          obtain ⟨wp, rfl⟩ : ∃ u : World, u = wr := ⟨_, rfl⟩
          have HO : Hid (OwnB w.heap.size wp u20 bs.reverse) := Lib.hid (by
            unfold OwnB
            rw [List.length_reverse, HL.out]
            rw [List.drop_zero, Nat.sub_zero] at hown
            exact own_base hown hw4)
          have hBw2 := hBw.trans (hB.mono hw4)
          have S2 := Lib.hid (P2.out.below hB)
          clear hu21 hown P1 P2 hB hs hBw hw4 hm
          go_wp2_with fail
          refine (ltake_ok HR.out.rev ht hc HV2 HX2 HO.out.is).mono ?_
          rintro e w30 ⟨v5, rfl, ho, hb⟩
          have hB30 : Below w.heap.size w w30 := below_thru hBw2 hb
          obtain ⟨a5, c5, rfl, q5, m5, B5⟩ := ho.is.openN HL5.out
          have T2 := Lib.hid (S2.out.below hb)
          clear hb ho HO S2 hBw2
          go_wp2_with fail
          go_loopw [25] (fun s25 wr => ∃ k : Nat, s25 = .int .i64 k ∧ k ≤ n ∧ Below w30.heap.size w30 wr) (fun s25 _ => n - (intOf s25).toNat)
          case atStart => exact ⟨0, rfl, by omega, Below.refl _ _⟩
          case round =>
            obtain ⟨k, rfl, hk, hB⟩ := hrel
            have hs := hB.size
            by_cases hlt : k < n
            case pos =>
              have hlz : k < zs.length := by have := HL2.out; omega
              obtain ⟨⟨bu, ra, pe, le, pt, a⟩, ebk⟩ : ∃ x, bk zs k = x := ⟨_, rfl⟩
              have ebr : bk zs.reverse (n - 1 - k) = ⟨bu, ra, pe, le, pt, a⟩ := by rw [← HL2.out, bk_rev hlz, ebk]
              obtain ⟨b, off, rfl, C0, C1, C2, C3, C4, C5⟩ := T2.out.atv hlz ebk
              obtain ⟨b5, off5, rfl, D0, D1, D2, D3, D4, D5⟩ := B5.out.atv (by have := HL5.out; omega) ebr
              have zb := lt_of_cell C0
              have zd := lt_of_cell D0
              obtain ⟨j, ej⟩ : ∃ j, n - 1 - k = j := ⟨_, rfl⟩
              rw [ej] at D0 D1 D2 D3 D4 D5
              have hkn : (k : Int) < (n : Int) := by omega
              have hk0 : (0 : Int) ≤ (k : Int) := by omega
              have r1 : IntKind.i64.wrap ((n : Int) - 1) = (n : Int) - 1 := IntWalk.i64_in _ (by omega)
              have r2 : IntKind.i64.wrap ((n : Int) - 1 - (k : Int)) = (j : Int) := by rw [IntWalk.i64_in _ (by omega)]; omega
              have hj0 : (0 : Int) ≤ (j : Int) := by omega
              have hj1 : (j : Int) < (n : Int) := by omega
              clear ebk ebr ej
              have c0 := cell_below hB C0
              have c1 := cell_below hB C1
              have c2 := cell_below hB C2
              have c3 := cell_below hB C3
              have c4 := cell_below hB C4
              have c5 := cell_below hB C5
              have d0 := cell_below hB D0
              have d1 := cell_below hB D1
              have d2 := cell_below hB D2
              have d3 := cell_below hB D3
              have d4 := cell_below hB D4
              have d5 := cell_below hB D5
              go_wp2_with fail
              go_quiet (fail)
              go_wp2_with fail
              go_roundw
              case rel => exact ⟨k + 1, by go_num, by omega, below_drewN hB nq⟩
              case measure => simp [intOf]; omega
            case neg =>
              obtain ⟨wq, rfl⟩ : ∃ u : World, u = wr := ⟨_, rfl⟩
              have hBq := hB30.trans (hB.mono hB30.size)
              clear T2 B5 hB hs
              go_wp2_with fail
              all_goals
                refine (alive04_any _).mono ?_
                rintro e w40 ⟨rfl, hb⟩
                have hB40 : Below w.heap.size w w40 := below_thru (by go_grown) hb
                clear hb
                go_wp2_with fail
                go_returns
                exact ⟨rfl, hB40⟩

set_option maxRecDepth 100000 in
set_option maxHeartbeats 12800000 in
theorem all4_no {bs : List Bk} {t c : Int} {v : Value} {w : World} (hr : Row bs) (ht : isU t) (hc : 0 ≤ c) (hx : takB bs t c = false) (h1 : IsB w v bs) :
    Calls Try.prog 7 #[v, .int .u64 t, .int .i64 c] w fun e w' => e = .returned (.bool true) ∧ Below w.heap.size w w' := by
  obtain ⟨n, hn⟩ : ∃ n, bs.length = n := ⟨_, rfl⟩
  obtain ⟨at0, cap, rfl, i1, i2, HB⟩ := h1.openN hn
  have H1 := Lib.hid h1
  have HL := Lib.hid hn
  have hn8 : n ≤ 8 := by have := hr.len; omega
  obtain ⟨fs, ef⟩ : ∃ y, bs.map (Bk.fil t) = y := ⟨_, rfl⟩
  obtain ⟨zs, ez⟩ : ∃ y, takV bs t c = y := ⟨_, rfl⟩
  have HL3 := Lib.hid (show fs.length = n by rw [← ef, List.length_map, hn])
  have HL2 := Lib.hid (show zs.length = n by rw [← ez, takV_len, hn])
  have HL5 := Lib.hid (show zs.reverse.length = n by rw [List.length_reverse]; exact HL2.out)
  have HRF := Lib.hid (show Row fs by rw [← ef]; exact hr.fil ht)
  have HH := Lib.hid (show holdB c fs = false by rw [← ef]; exact hx)
  have HX := Lib.hid (show takB bs t c = false from hx)
  have HX2 := Lib.hid (show takB bs.reverse t c = false by rw [takB_rev]; exact hx)
  have HV := Lib.hid ez
  have HV2 := Lib.hid (show takV bs.reverse t c = zs.reverse by rw [takV_rev, ez])
  have HZ := Lib.hid (show fs = zs by rw [← ez, ← ef]; unfold takV; unfold takB at hx; rw [hx]; rfl)
  have EF := Lib.hid ef
  have HR := Lib.hid hr
  have d2 : decide (c < 0) = false := decide_eq_false (by omega)
  have hcp : 0 < c := by
    rcases Int.lt_or_le 0 c with q | q
    · exact q
    · have : holdB c (bs.map (Bk.fil t)) = true := holdB_mk fun b hb => by
        have := ((hr.fil ht).ok b hb).l0
        omega
      unfold takB at hx
      rw [this] at hx
      cases hx
  have d3 : decide (c > 0) = true := decide_eq_true hcp
  have d4 : decide (0 < c) = true := decide_eq_true hcp
  clear h1 hn ef ez hr hx
  obtain ⟨ti, hin, hz0, hz1, hz2⟩ := info_parts info_bucket
  go_enter Try.func7, Try.ntmps7
  go_wp2_with fail
  refine (fit_yes HR.out.e H1.out).mono ?_
  rintro e w1 ⟨rfl, hb⟩
  have hB1 : Below w.heap.size w w1 := below_thru (by go_grown) hb
  have hs1 := hB1.size
  have H1_ : Hid (IsB w1 (.slice at0 n cap) bs) := Lib.hid (by first | exact H1.out.below hb | exact (H1.out.alloc _).below hb | exact ((H1.out.alloc _).alloc _).below hb | exact (((H1.out.alloc _).alloc _).alloc _).below hb | exact H1.out.drew.below hb)
  clear H1; have H1 := H1_; clear H1_
  clear hb
  go_wp2_with fail
  refine (ltake_ok HR.out ht hc HV HX H1.out).mono ?_
  rintro e w2 ⟨v2, rfl, ho, hb⟩
  have hB2 : Below w.heap.size w w2 := below_thru (by go_grown) hb
  have hs2 := hB2.size
  have H1_ : Hid (IsB w2 (.slice at0 n cap) bs) := Lib.hid (by first | exact H1.out.below hb | exact (H1.out.alloc _).below hb | exact ((H1.out.alloc _).alloc _).below hb | exact (((H1.out.alloc _).alloc _).alloc _).below hb | exact H1.out.drew.below hb)
  clear H1; have H1 := H1_; clear H1_
  have O2 : Hid (OwnB w.heap.size w2 v2 (zs)) := Lib.hid (ho.base (by first | omega | (simp; omega)))
  clear ho
  clear hb
  clear hB1 hs1
  go_wp2_with fail
  refine (lrefill_is HR.out ht EF H1.out).mono ?_
  rintro e w3 ⟨v3, rfl, ho, hb⟩
  have hB3 : Below w.heap.size w w3 := below_thru (by go_grown) hb
  have hs3 := hB3.size
  have H1_ : Hid (IsB w3 (.slice at0 n cap) bs) := Lib.hid (by first | exact H1.out.below hb | exact (H1.out.alloc _).below hb | exact ((H1.out.alloc _).alloc _).below hb | exact (((H1.out.alloc _).alloc _).alloc _).below hb | exact H1.out.drew.below hb)
  clear H1; have H1 := H1_; clear H1_
  have O2_ : Hid (OwnB w.heap.size w3 v2 (zs)) := Lib.hid (by first | exact O2.out.below hb | exact (O2.out.alloc _).below hb | exact ((O2.out.alloc _).alloc _).below hb | exact (((O2.out.alloc _).alloc _).alloc _).below hb | exact O2.out.drew.below hb)
  clear O2; have O2 := O2_; clear O2_
  have O3 : Hid (OwnB w.heap.size w3 v3 (fs)) := Lib.hid (ho.base (by first | omega | (simp; omega)))
  clear ho
  clear hb
  clear hB2 hs2
  go_wp2_with fail
  refine (lhold_ok HRF.out.e hc HH O3.out.is).mono ?_
  rintro e w4 ⟨rfl, hb⟩
  have hB4 : Below w.heap.size w w4 := below_thru (by go_grown) hb
  have hs4 := hB4.size
  have H1_ : Hid (IsB w4 (.slice at0 n cap) bs) := Lib.hid (by first | exact H1.out.below hb | exact (H1.out.alloc _).below hb | exact ((H1.out.alloc _).alloc _).below hb | exact (((H1.out.alloc _).alloc _).alloc _).below hb | exact H1.out.drew.below hb)
  clear H1; have H1 := H1_; clear H1_
  have O2_ : Hid (OwnB w.heap.size w4 v2 (zs)) := Lib.hid (by first | exact O2.out.below hb | exact (O2.out.alloc _).below hb | exact ((O2.out.alloc _).alloc _).below hb | exact (((O2.out.alloc _).alloc _).alloc _).below hb | exact O2.out.drew.below hb)
  clear O2; have O2 := O2_; clear O2_
  have O3_ : Hid (OwnB w.heap.size w4 v3 (fs)) := Lib.hid (by first | exact O3.out.below hb | exact (O3.out.alloc _).below hb | exact ((O3.out.alloc _).alloc _).below hb | exact (((O3.out.alloc _).alloc _).alloc _).below hb | exact O3.out.drew.below hb)
  clear O3; have O3 := O3_; clear O3_
  clear hb
  clear hB3 hs3
  obtain ⟨a2, c2, rfl, q2, m2, B2⟩ := O2.out.is.openN HL2.out
  obtain ⟨a3, c3, rfl, q3, m3, B3⟩ := O3.out.is.openN HL3.out
  have B1 := Lib.hid (show Bks w4 at0 cap bs from HB.out.below hB4)
  clear O2 O3
  go_wp2_with fail
  go_loopw [14, 15] (fun s14 s15 wr => ∃ (k : Nat) (y : Bool), s14 = .bool y ∧ s15 = .int .i64 k ∧ k ≤ n ∧ Hid (holdB c (fs.take k) = y) ∧ Below w4.heap.size w4 wr) (fun _ s15 _ => n - (intOf s15).toNat)
  case atStart => exact ⟨0, true, rfl, rfl, by omega, Lib.hid rfl, Below.refl _ _⟩
  case round =>
    obtain ⟨k, y, rfl, rfl, hk, HY, hB⟩ := hrel
    have hs := hB.size
    by_cases hlt : k < n
    case pos =>
      obtain ⟨⟨bu, ra, pe, le, pt, a⟩, ebk⟩ : ∃ x, bk bs k = x := ⟨_, rfl⟩
      have hlb : k < bs.length := by have := HL.out; omega
      have hbuc : Buc bu ra pe le pt a := by have := HR.out.at hlb; rw [ebk] at this; exact this
      obtain ⟨L, e1⟩ : ∃ x, filL bu ra pe le pt a t = x := ⟨_, rfl⟩
      obtain ⟨Q, e2⟩ : ∃ x, filP bu ra pe le pt a t = x := ⟨_, rfl⟩
      obtain ⟨T, e3⟩ : ∃ x, filA a t = x := ⟨_, rfl⟩
      have ebf : bk fs k = ⟨bu, ra, pe, L, Q, T⟩ := by rw [← EF.out, bk_map _ hlb, ebk, ← e1, ← e2, ← e3]; rfl
      have hbf : Buc bu ra pe L Q T := by have := hbuc.filled ht; rw [e1, e2, e3] at this; exact this
      have hll : L ≤ 1000000000 := by have := hbf.l1; have := hbf.nums; omega
      have hsn : holdB c (fs.take (k + 1)) = (y && decide (c ≤ L)) := by rw [take_succ_bk (by have := HL3.out; omega), holdB_snoc, ebf, HY.out]
      have ebz : bk zs k = ⟨bu, ra, pe, L, Q, T⟩ := by rw [← HZ.out]; exact ebf
      obtain ⟨b, off, rfl, C0, C1, C2, C3, C4, C5⟩ := B1.out.atv hlb ebk
      obtain ⟨b3, off3, rfl, D0, D1, D2, D3, D4, D5⟩ := B3.out.atv (by have := HL3.out; omega) ebf
      obtain ⟨b2, off2, rfl, G0, G1, G2, G3, G4, G5⟩ := B2.out.atv (by have := HL2.out; omega) ebz
      have zb := lt_of_cell C0
      have zb3 := lt_of_cell D0
      have zb2 := lt_of_cell G0
      have hkn : (k : Int) < (n : Int) := by omega
      have hk0 : (0 : Int) ≤ (k : Int) := by omega
      have E1 := Lib.hid e1
      have E2 := Lib.hid e2
      have E3 := Lib.hid e3
      have BU := Lib.hid hbuc
      have K0 := Lib.hid hbf.ok
      have HSN := Lib.hid hsn
      clear e1 e2 e3 hbuc hbf ebk ebf ebz hsn
      by_cases hcl : c ≤ L
      · obtain ⟨m, e4⟩ : ∃ x, L - c = x := ⟨_, rfl⟩
        have E4 := Lib.hid e4
        have HY2 : Hid (holdB c (fs.take (k + 1)) = y) := Lib.hid (by rw [HSN.out, decide_eq_true hcl, Bool.and_true])
        clear e4 HSN
        cases y
        all_goals
          have c0 := cell_below hB C0
          have c1 := cell_below hB C1
          have c2 := cell_below hB C2
          have c3 := cell_below hB C3
          have c4 := cell_below hB C4
          have c5 := cell_below hB C5
          go_wp2_with fail
          refine (refill_ok BU.out ht E1 E2 E3 _).mono ?_
          rintro e w5 ⟨rfl, hb⟩
          have hB5 : Below w4.heap.size w4 w5 := below_thru (by go_grown) hb
          have hs5 := hB5.size
          clear hb c0 c1 c2 c3 c4 c5 hB hs
          go_upto_region 13 with fail
          have hB6 := hB5.alloc hs5 (.cells #[.int .i64 bu, .int .i64 ra, .int .i64 pe, .int .i64 L, .int .i64 Q, .int .u64 T] 26)
          have xb : Box (w5.alloc (.cells #[.int .i64 bu, .int .i64 ra, .int .i64 pe, .int .i64 L, .int .i64 Q, .int .u64 T] 26)) w5.heap.size [.int .i64 bu, .int .i64 ra, .int .i64 pe, .int .i64 L, .int .i64 Q, .int .u64 T] := Box.new rfl
          obtain ⟨w6, h9⟩ : ∃ W, w5.alloc (.cells #[.int .i64 bu, .int .i64 ra, .int .i64 pe, .int .i64 L, .int .i64 Q, .int .u64 T] 26) = W := ⟨_, rfl⟩
          rw [h9] at hB6 xb   ⊢
          clear h9
          have hs_w6 := hB6.size
          clear hB5 hs5
          have fz := xb.lt
          have f0 := xb.c 0 _ rfl
          have f1 := xb.c 1 _ rfl
          have f2 := xb.c 2 _ rfl
          have f3 := xb.c 3 _ rfl
          have f4 := xb.c 4 _ rfl
          have f5 := xb.c 5 _ rfl
          go_wp2_with fail
          refine (charge_is K0 hc hcl hll E4 _).mono ?_
          rintro e w7 ⟨rfl, hb⟩
          have hB7 : Below w4.heap.size w4 w7 := below_thru (by go_grown) hb
          have hs7 := hB7.size
          have xb7 : Box w7 _ [.int .i64 bu, .int .i64 ra, .int .i64 pe, .int .i64 L, .int .i64 Q, .int .u64 T] := xb.below hb
          clear hb hB6 hs_w6 xb fz f0 f1 f2 f3 f4 f5
          go_upto_region 14 with fail
          have hB8 := hB7.alloc hs7 (.cells #[.int .i64 bu, .int .i64 ra, .int .i64 pe, .int .i64 m, .int .i64 Q, .int .u64 T] 26)
          have xc : Box (w7.alloc (.cells #[.int .i64 bu, .int .i64 ra, .int .i64 pe, .int .i64 m, .int .i64 Q, .int .u64 T] 26)) w7.heap.size [.int .i64 bu, .int .i64 ra, .int .i64 pe, .int .i64 m, .int .i64 Q, .int .u64 T] := Box.new rfl
          have xb7 := Box.alloc xb7 (.cells #[.int .i64 bu, .int .i64 ra, .int .i64 pe, .int .i64 m, .int .i64 Q, .int .u64 T] 26)
          obtain ⟨w8, h9⟩ : ∃ W, w7.alloc (.cells #[.int .i64 bu, .int .i64 ra, .int .i64 pe, .int .i64 m, .int .i64 Q, .int .u64 T] 26) = W := ⟨_, rfl⟩
          rw [h9] at hB8 xc xb7  ⊢
          clear h9
          have hs_w8 := hB8.size
          clear hB7 hs7
          have fz := xb7.lt
          have f0 := xb7.c 0 _ rfl
          have f1 := xb7.c 1 _ rfl
          have f2 := xb7.c 2 _ rfl
          have f3 := xb7.c 3 _ rfl
          have f4 := xb7.c 4 _ rfl
          have f5 := xb7.c 5 _ rfl
          have gz := xc.lt
          have g0 := xc.c 0 _ rfl
          have g1 := xc.c 1 _ rfl
          have g2 := xc.c 2 _ rfl
          have g3 := xc.c 3 _ rfl
          have g4 := xc.c 4 _ rfl
          have g5 := xc.c 5 _ rfl
          have d0 := cell_below hB8 D0
          have d1 := cell_below hB8 D1
          have d2 := cell_below hB8 D2
          have d3 := cell_below hB8 D3
          have d4 := cell_below hB8 D4
          have d5 := cell_below hB8 D5
          have o0 := cell_below hB8 G0
          have o1 := cell_below hB8 G1
          have o2 := cell_below hB8 G2
          have o3 := cell_below hB8 G3
          have o4 := cell_below hB8 G4
          have o5 := cell_below hB8 G5
          go_quiet (fail)
          go_wp2_with fail
          go_roundw
          case rel => exact ⟨k + 1, _, rfl, by go_num, by omega, HY2, below_drewN hB8 nq⟩
          case measure => simp [intOf]; omega
      · have HY2 : Hid (holdB c (fs.take (k + 1)) = false) := Lib.hid (by rw [HSN.out, decide_eq_false hcl, Bool.and_false])
        clear HSN
        cases y
        all_goals
          have c0 := cell_below hB C0
          have c1 := cell_below hB C1
          have c2 := cell_below hB C2
          have c3 := cell_below hB C3
          have c4 := cell_below hB C4
          have c5 := cell_below hB C5
          go_wp2_with fail
          refine (refill_ok BU.out ht E1 E2 E3 _).mono ?_
          rintro e w5 ⟨rfl, hb⟩
          have hB5 : Below w4.heap.size w4 w5 := below_thru (by go_grown) hb
          have hs5 := hB5.size
          clear hb c0 c1 c2 c3 c4 c5 hB hs
          go_upto_region 13 with fail
          have hB6 := hB5.alloc hs5 (.cells #[.int .i64 bu, .int .i64 ra, .int .i64 pe, .int .i64 L, .int .i64 Q, .int .u64 T] 26)
          have xb : Box (w5.alloc (.cells #[.int .i64 bu, .int .i64 ra, .int .i64 pe, .int .i64 L, .int .i64 Q, .int .u64 T] 26)) w5.heap.size [.int .i64 bu, .int .i64 ra, .int .i64 pe, .int .i64 L, .int .i64 Q, .int .u64 T] := Box.new rfl
          obtain ⟨w6, h9⟩ : ∃ W, w5.alloc (.cells #[.int .i64 bu, .int .i64 ra, .int .i64 pe, .int .i64 L, .int .i64 Q, .int .u64 T] 26) = W := ⟨_, rfl⟩
          rw [h9] at hB6 xb   ⊢
          clear h9
          have hs_w6 := hB6.size
          clear hB5 hs5
          have fz := xb.lt
          have f0 := xb.c 0 _ rfl
          have f1 := xb.c 1 _ rfl
          have f2 := xb.c 2 _ rfl
          have f3 := xb.c 3 _ rfl
          have f4 := xb.c 4 _ rfl
          have f5 := xb.c 5 _ rfl
          go_wp2_with fail
          refine (charge_low K0 hc (by omega) _).mono ?_
          rintro e w7 ⟨rfl, hb⟩
          have hB7 : Below w4.heap.size w4 w7 := below_thru (by go_grown) hb
          have hs7 := hB7.size
          have xb7 : Box w7 _ [.int .i64 bu, .int .i64 ra, .int .i64 pe, .int .i64 L, .int .i64 Q, .int .u64 T] := xb.below hb
          clear hb hB6 hs_w6 xb fz f0 f1 f2 f3 f4 f5
          go_upto_region 14 with fail
          have hB8 := hB7.alloc hs7 (.cells #[.int .i64 0, .int .i64 0, .int .i64 0, .int .i64 0, .int .i64 0, .int .u64 0] 26)
          have xc : Box (w7.alloc (.cells #[.int .i64 0, .int .i64 0, .int .i64 0, .int .i64 0, .int .i64 0, .int .u64 0] 26)) w7.heap.size [.int .i64 0, .int .i64 0, .int .i64 0, .int .i64 0, .int .i64 0, .int .u64 0] := Box.new rfl
          have xb7 := Box.alloc xb7 (.cells #[.int .i64 0, .int .i64 0, .int .i64 0, .int .i64 0, .int .i64 0, .int .u64 0] 26)
          obtain ⟨w8, h9⟩ : ∃ W, w7.alloc (.cells #[.int .i64 0, .int .i64 0, .int .i64 0, .int .i64 0, .int .i64 0, .int .u64 0] 26) = W := ⟨_, rfl⟩
          rw [h9] at hB8 xc xb7  ⊢
          clear h9
          have hs_w8 := hB8.size
          clear hB7 hs7
          have fz := xb7.lt
          have f0 := xb7.c 0 _ rfl
          have f1 := xb7.c 1 _ rfl
          have f2 := xb7.c 2 _ rfl
          have f3 := xb7.c 3 _ rfl
          have f4 := xb7.c 4 _ rfl
          have f5 := xb7.c 5 _ rfl
          have gz := xc.lt
          have g0 := xc.c 0 _ rfl
          have g1 := xc.c 1 _ rfl
          have g2 := xc.c 2 _ rfl
          have g3 := xc.c 3 _ rfl
          have g4 := xc.c 4 _ rfl
          have g5 := xc.c 5 _ rfl
          have d0 := cell_below hB8 D0
          have d1 := cell_below hB8 D1
          have d2 := cell_below hB8 D2
          have d3 := cell_below hB8 D3
          have d4 := cell_below hB8 D4
          have d5 := cell_below hB8 D5
          have o0 := cell_below hB8 G0
          have o1 := cell_below hB8 G1
          have o2 := cell_below hB8 G2
          have o3 := cell_below hB8 G3
          have o4 := cell_below hB8 G4
          have o5 := cell_below hB8 G5
          go_quiet (fail)
          go_wp2_with fail
          go_roundw
          case rel => exact ⟨k + 1, _, rfl, by go_num, by omega, HY2, below_drewN hB8 nq⟩
          case measure => simp [intOf]; omega
    case neg =>
      have hy : y = false := by
        have := HY.out
        rw [List.take_of_length_le (by have := HL3.out; omega), HH.out] at this
        exact this.symm
      subst hy
      obtain ⟨wo, rfl⟩ : ∃ u : World, u = wr := ⟨_, rfl⟩
      have hBw := hB4.trans (hB.mono hs4)
      have P1 := Lib.hid (B1.out.below hB)
      have P2 := Lib.hid (B2.out.below hB)
      have hw4 : w.heap.size ≤ wo.heap.size := hBw.size
      clear HY B1 B2 B3 hB hs hB4 hs4
      go_wp2_with fail
      go_loopw [20, 21] (fun s20 s21 wr => ∃ m : Nat, m ≤ n ∧ s21 = .int .i64 ((m : Int) - 1) ∧ wr.ownsRow wo.heap.size 26 6 s20 (n - m) (flat ((bs.drop m).reverse)) ∧ Below wo.heap.size wo wr) (fun _ s21 _ => (intOf s21 + 1).toNat)
      case atStart => exact ⟨n, by omega, rfl, by rw [List.drop_of_length_le (by have := HL.out; omega), Nat.sub_self]; exact ownsB_none, Below.refl _ _⟩
      case round =>
        obtain ⟨m, hm, hu21, hown, hB⟩ := hrel
        have hs := hB.size
        cases m with
        | succ i =>
          obtain rfl : u21 = .int .i64 (i : Int) := by rw [hu21]; congr 1; omega
          clear hu21
          have hlb : i < bs.length := by have := HL.out; omega
          obtain ⟨⟨bu, ra, pe, le, pt, a⟩, ebk⟩ : ∃ x, bk bs i = x := ⟨_, rfl⟩
          obtain ⟨b, off, rfl, C0, C1, C2, C3, C4, C5⟩ := P1.out.atv hlb ebk
          have zb := lt_of_cell C0
          have HS : Hid (flat ((bs.drop i).reverse) = flat ((bs.drop (i + 1)).reverse) ++ [.int .i64 bu, .int .i64 ra, .int .i64 pe, .int .i64 le, .int .i64 pt, .int .u64 a]) := Lib.hid (by rw [drop_bk hlb, flat_snoc, ebk]; rfl)
          have hin1 : (i : Int) < (n : Int) := by omega
          have hin0 : (0 : Int) ≤ (i : Int) := by omega
          clear ebk
          have c0 := cell_below hB C0
          have c1 := cell_below hB C1
          have c2 := cell_below hB C2
          have c3 := cell_below hB C3
          have c4 := cell_below hB C4
          have c5 := cell_below hB C5
          go_wp2_with (at_builtin; refine wpList_append_own _ rfl _ _ 39 rfl wo.heap.size 26 ti _ 6 48 Try.underlying39 hin hz0 hz1 hz2 rfl (by decide) _ _ _ rfl (hown.alloc _) ⟨wr.heap.size, 0, none⟩ 1 1 [.int .i64 bu, .int .i64 ra, .int .i64 pe, .int .i64 le, .int .i64 pt, .int .u64 a] rfl rfl (World.news_of_block (cs := #[.int .i64 bu, .int .i64 ra, .int .i64 pe, .int .i64 le, .int .i64 pt, .int .u64 a]) (t := 26) (fr := (0, 0)) (heap_alloc_new wr _)) (by simp [Value.oneCell']) (by unfold maxLen; omega) (by omega) (by simp; omega) ?_; intro v9 w9 hown9 hgrow _)
          have hB9 := (hB.alloc hs (.cells #[.int .i64 bu, .int .i64 ra, .int .i64 pe, .int .i64 le, .int .i64 pt, .int .u64 a] 26)).grown hgrow (by simp; omega) (own_blocks (hown.alloc (.cells #[.int .i64 bu, .int .i64 ra, .int .i64 pe, .int .i64 le, .int .i64 pt, .int .u64 a] 26)))
          rw [← HS.out] at hown9
          go_roundw
          case rel => exact ⟨i, by omega, rfl, by rw [show n - i = n - (i + 1) + 1 by omega]; exact hown9, hB9⟩
          case measure => simp [intOf]; try omega
        | zero =>
          obtain rfl : u21 = .int .i64 (-1) := by rw [hu21]; rfl
          obtain ⟨wp, rfl⟩ : ∃ u : World, u = wr := ⟨_, rfl⟩
          have HO : Hid (OwnB w.heap.size wp u20 bs.reverse) := Lib.hid (by
            unfold OwnB
            rw [List.length_reverse, HL.out]
            rw [List.drop_zero, Nat.sub_zero] at hown
            exact own_base hown hw4)
          have hBw2 := hBw.trans (hB.mono hw4)
          have S2 := Lib.hid (P2.out.below hB)
          clear hu21 hown P1 P2 hB hs hBw hw4 hm
          go_wp2_with fail
          refine (ltake_ok HR.out.rev ht hc HV2 HX2 HO.out.is).mono ?_
          rintro e w30 ⟨v5, rfl, ho, hb⟩
          have hB30 : Below w.heap.size w w30 := below_thru hBw2 hb
          obtain ⟨a5, c5, rfl, q5, m5, B5⟩ := ho.is.openN HL5.out
          have T2 := Lib.hid (S2.out.below hb)
          clear hb ho HO S2 hBw2
          go_wp2_with fail
          go_loopw [25] (fun s25 wr => ∃ k : Nat, s25 = .int .i64 k ∧ k ≤ n ∧ Below w30.heap.size w30 wr) (fun s25 _ => n - (intOf s25).toNat)
          case atStart => exact ⟨0, rfl, by omega, Below.refl _ _⟩
          case round =>
            obtain ⟨k, rfl, hk, hB⟩ := hrel
            have hs := hB.size
            by_cases hlt : k < n
            case pos =>
              have hlz : k < zs.length := by have := HL2.out; omega
              obtain ⟨⟨bu, ra, pe, le, pt, a⟩, ebk⟩ : ∃ x, bk zs k = x := ⟨_, rfl⟩
              have ebr : bk zs.reverse (n - 1 - k) = ⟨bu, ra, pe, le, pt, a⟩ := by rw [← HL2.out, bk_rev hlz, ebk]
              obtain ⟨b, off, rfl, C0, C1, C2, C3, C4, C5⟩ := T2.out.atv hlz ebk
              obtain ⟨b5, off5, rfl, D0, D1, D2, D3, D4, D5⟩ := B5.out.atv (by have := HL5.out; omega) ebr
              have zb := lt_of_cell C0
              have zd := lt_of_cell D0
              obtain ⟨j, ej⟩ : ∃ j, n - 1 - k = j := ⟨_, rfl⟩
              rw [ej] at D0 D1 D2 D3 D4 D5
              have hkn : (k : Int) < (n : Int) := by omega
              have hk0 : (0 : Int) ≤ (k : Int) := by omega
              have r1 : IntKind.i64.wrap ((n : Int) - 1) = (n : Int) - 1 := IntWalk.i64_in _ (by omega)
              have r2 : IntKind.i64.wrap ((n : Int) - 1 - (k : Int)) = (j : Int) := by rw [IntWalk.i64_in _ (by omega)]; omega
              have hj0 : (0 : Int) ≤ (j : Int) := by omega
              have hj1 : (j : Int) < (n : Int) := by omega
              clear ebk ebr ej
              have c0 := cell_below hB C0
              have c1 := cell_below hB C1
              have c2 := cell_below hB C2
              have c3 := cell_below hB C3
              have c4 := cell_below hB C4
              have c5 := cell_below hB C5
              have d0 := cell_below hB D0
              have d1 := cell_below hB D1
              have d2 := cell_below hB D2
              have d3 := cell_below hB D3
              have d4 := cell_below hB D4
              have d5 := cell_below hB D5
              go_wp2_with fail
              go_quiet (fail)
              go_wp2_with fail
              go_roundw
              case rel => exact ⟨k + 1, by go_num, by omega, below_drewN hB nq⟩
              case measure => simp [intOf]; omega
            case neg =>
              obtain ⟨wq, rfl⟩ : ∃ u : World, u = wr := ⟨_, rfl⟩
              have hBq := hB30.trans (hB.mono hB30.size)
              clear T2 B5 hB hs
              go_wp2_with fail
              all_goals
                refine (alive04_any _).mono ?_
                rintro e w40 ⟨rfl, hb⟩
                have hB40 : Below w.heap.size w w40 := below_thru (by go_grown) hb
                clear hb
                go_wp2_with fail
                go_returns
                exact ⟨rfl, hB40⟩

theorem all4_main {bs : List Bk} {t c : Int} {v : Value} {w : World} (hr : Row bs) (ht : isU t) (hc : 0 ≤ c) (h1 : IsB w v bs) :
    Calls Try.prog 7 #[v, .int .u64 t, .int .i64 c] w fun e w' => e = .returned (.bool true) ∧ Below w.heap.size w w' := by
  cases hx : takB bs t c with
  | true => exact all4_yes hr ht hc hx h1
  | false => exact all4_no hr ht hc hx h1

end Go.Proofs.Ytmpcpflpcfanjaa
