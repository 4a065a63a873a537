/-
  LevelsAlone, walked over the contracts of packages levels and bucket: it returns true.
-/
import Derived.Test.YtmpcpflpcfanjaaSame04
namespace Go.Proofs.Ytmpcpflpcfanjaa
open Go.RowKit

theorem bk_tak {rs : List Bk} {t c : Int} {p : Nat} (hp : p < rs.length) : bk (takV rs t c) p = if takB rs t c then Bk.chg c (Bk.fil t (bk rs p)) else Bk.fil t (bk rs p) := by
  unfold takV takB
  split
  · rw [bk_map _ (by simpa using hp), bk_map _ hp]
  · rw [bk_map _ hp]
theorem tak_le {rs : List Bk} {t c : Int} {p : Nat} (hp : p < rs.length) (h : takB rs t c = true) : c ≤ (Bk.fil t (bk rs p)).le := by
  unfold takB at h
  have := holdB_yes h _ (bk_mem (show p < (rs.map (Bk.fil t)).length by simpa using hp))
  rwa [bk_map _ hp] at this
theorem Bks.atw {w : World} {at0 : Option Addr} {cap : Nat} {bs : List Bk} (h : Bks w at0 cap bs) {i : Nat} (hi : i < bs.length) {bu ra pe le pt a : Int} (eb : bk bs i = ⟨bu, ra, pe, le, pt, a⟩) :
    ∃ b off, at0 = some ⟨b, off, Option.none⟩ ∧ w.cell? ⟨b, off + i * 6, Option.none⟩ = some (.int .i64 bu) ∧ w.cell? ⟨b, off + i * 6 + 1, Option.none⟩ = some (.int .i64 ra) ∧ w.cell? ⟨b, off + i * 6 + 2, Option.none⟩ = some (.int .i64 pe) ∧
      w.cell? ⟨b, off + i * 6 + 3, Option.none⟩ = some (.int .i64 le) ∧ w.cell? ⟨b, off + i * 6 + 4, Option.none⟩ = some (.int .i64 pt) ∧ w.cell? ⟨b, off + i * 6 + 5, Option.none⟩ = some (.int .u64 a) := by
  obtain ⟨b, off, e, hc⟩ := h.cells (by omega)
  have hc := hc i hi
  rw [eb] at hc
  exact ⟨b, off, e, hc 0 _ rfl, hc 1 _ rfl, hc 2 _ rfl, hc 3 _ rfl, hc 4 _ rfl, hc 5 _ rfl⟩
theorem IsB.openM {w : World} {v : Value} {bs : List Bk} {n : Nat} (h : IsB w v bs) (hl : bs.length = n) : ∃ at0 cap, v = .slice at0 n cap ∧ n ≤ cap ∧ cap ≤ 9223372036854775807 ∧ Hid (Bks w at0 cap bs) := by
  obtain ⟨at0, cap, rfl, hb⟩ := h
  subst hl
  exact ⟨at0, cap, rfl, hb.room, hb.most, Lib.hid hb⟩

set_option maxRecDepth 100000 in
set_option maxHeartbeats 6400000 in
theorem alone4_bad {bs : List Bk} {ts cs : List Int} {at1 at2 : Option Addr} {n m c1 c2 : Nat} {p : Int} {v : Value} {w : World} (h : rowE bs ≠ 0) (hn : Hid (ts.length = n)) (hm : Hid (cs.length = m)) (h1 : IsB w v bs) (hi : Ints w .u64 at1 c1 ts) (hj : Ints w .i64 at2 c2 cs) :
    Calls Try.prog 10 #[v, .slice at1 n c1, .slice at2 m c2, .int .i64 p] w fun e w' => e = .returned (.bool true) ∧ Below w.heap.size w w' := by
  have i1 : n ≤ c1 := by have := hi.room; have := hn.out; omega
  have i2 := hi.most
  have j1 : m ≤ c2 := by have := hj.room; have := hm.out; omega
  have j2 := hj.most
  go_enter Try.func10, Try.ntmps10
  go_wp2_with fail
  refine (fit_no h h1).mono ?_
  rintro e w1 ⟨rfl, hb⟩
  have hB1 : Below w.heap.size w w1 := below_thru (by go_grown) hb
  have hs1 := hB1.size
  clear hb
  go_wp2_with fail
  refine (alive04_any _).mono ?_
  rintro e w2 ⟨rfl, hb⟩
  have hB2 : Below w.heap.size w w2 := below_thru (by go_grown) hb
  have hs2 := hB2.size
  clear hb
  clear hB1 hs1
  go_wp2_with fail
  go_returns
  exact ⟨rfl, hB2⟩

set_option maxRecDepth 100000 in
set_option maxHeartbeats 6400000 in
theorem alone4_long {bs : List Bk} {ts cs : List Int} {at1 at2 : Option Addr} {n m c1 c2 : Nat} {p : Int} {v : Value} {w : World} (h : rowE bs = 0) (hl : 30 < n) (hn : Hid (ts.length = n)) (hm : Hid (cs.length = m)) (h1 : IsB w v bs) (hi : Ints w .u64 at1 c1 ts) (hj : Ints w .i64 at2 c2 cs) :
    Calls Try.prog 10 #[v, .slice at1 n c1, .slice at2 m c2, .int .i64 p] w fun e w' => e = .returned (.bool true) ∧ Below w.heap.size w w' := by
  have i1 : n ≤ c1 := by have := hi.room; have := hn.out; omega
  have i2 := hi.most
  have j1 : m ≤ c2 := by have := hj.room; have := hm.out; omega
  have j2 := hj.most
  have d1 : decide ((30 : Int) < (n : Int)) = true := decide_eq_true (by omega)
  go_enter Try.func10, Try.ntmps10
  go_wp2_with fail
  refine (fit_yes h h1).mono ?_
  rintro e w1 ⟨rfl, hb⟩
  have hB1 : Below w.heap.size w w1 := below_thru (by go_grown) hb
  have hs1 := hB1.size
  clear hb
  go_wp2_with fail
  refine (alive04_any _).mono ?_
  rintro e w2 ⟨rfl, hb⟩
  have hB2 : Below w.heap.size w w2 := below_thru (by go_grown) hb
  have hs2 := hB2.size
  clear hb
  clear hB1 hs1
  go_wp2_with fail
  go_returns
  exact ⟨rfl, hB2⟩

set_option maxRecDepth 100000 in
set_option maxHeartbeats 6400000 in
theorem alone4_costs {bs : List Bk} {ts cs : List Int} {at1 at2 : Option Addr} {n m c1 c2 : Nat} {p : Int} {v : Value} {w : World} (h : rowE bs = 0) (hl : n ≤ 30) (hx : Hid (cosB ts cs = false)) (hn : Hid (ts.length = n)) (hm : Hid (cs.length = m)) (h1 : IsB w v bs) (hi : Ints w .u64 at1 c1 ts) (hj : Ints w .i64 at2 c2 cs) :
    Calls Try.prog 10 #[v, .slice at1 n c1, .slice at2 m c2, .int .i64 p] w fun e w' => e = .returned (.bool true) ∧ Below w.heap.size w w' := by
  have i1 : n ≤ c1 := by have := hi.room; have := hn.out; omega
  have i2 := hi.most
  have j1 : m ≤ c2 := by have := hj.room; have := hm.out; omega
  have j2 := hj.most
  have d1 : decide ((30 : Int) < (n : Int)) = false := decide_eq_false (by omega)
  have J0 := Lib.hid hj
  go_enter Try.func10, Try.ntmps10
  go_wp2_with fail
  refine (fit_yes h h1).mono ?_
  rintro e w1 ⟨rfl, hb⟩
  have hB1 : Below w.heap.size w w1 := below_thru (by go_grown) hb
  have hs1 := hB1.size
  clear hb
  have J1 := Lib.hid (J0.out.below hB1)
  go_wp2_with fail
  refine (rcosts_is _ hn hm hx J1.out).mono ?_
  rintro e _ ⟨rfl, rfl⟩
  go_wp2_with fail
  refine (alive04_any _).mono ?_
  rintro e w2 ⟨rfl, hb⟩
  have hB2 : Below w.heap.size w w2 := below_thru (by go_grown) hb
  have hs2 := hB2.size
  clear hb
  clear hB1 hs1
  go_wp2_with fail
  go_returns
  exact ⟨rfl, hB2⟩

set_option maxRecDepth 100000 in
set_option maxHeartbeats 6400000 in
theorem alone4_neg {bs : List Bk} {ts cs : List Int} {at1 at2 : Option Addr} {n m c1 c2 : Nat} {p : Int} {v : Value} {w : World} (h : rowE bs = 0) (hl : n ≤ 30) (hx : Hid (cosB ts cs = true)) (hp : p < 0) (hn : Hid (ts.length = n)) (hm : Hid (cs.length = m)) (h1 : IsB w v bs) (hi : Ints w .u64 at1 c1 ts) (hj : Ints w .i64 at2 c2 cs) :
    Calls Try.prog 10 #[v, .slice at1 n c1, .slice at2 m c2, .int .i64 p] w fun e w' => e = .returned (.bool true) ∧ Below w.heap.size w w' := by
  have i1 : n ≤ c1 := by have := hi.room; have := hn.out; omega
  have i2 := hi.most
  have j1 : m ≤ c2 := by have := hj.room; have := hm.out; omega
  have j2 := hj.most
  have d1 : decide ((30 : Int) < (n : Int)) = false := decide_eq_false (by omega)
  have J0 := Lib.hid hj
  have d2 : decide (p < 0) = true := decide_eq_true hp
  go_enter Try.func10, Try.ntmps10
  go_wp2_with fail
  refine (fit_yes h h1).mono ?_
  rintro e w1 ⟨rfl, hb⟩
  have hB1 : Below w.heap.size w w1 := below_thru (by go_grown) hb
  have hs1 := hB1.size
  clear hb
  have J1 := Lib.hid (J0.out.below hB1)
  go_wp2_with fail
  refine (rcosts_is _ hn hm hx J1.out).mono ?_
  rintro e _ ⟨rfl, rfl⟩
  go_wp2_with fail
  refine (alive04_any _).mono ?_
  rintro e w2 ⟨rfl, hb⟩
  have hB2 : Below w.heap.size w w2 := below_thru (by go_grown) hb
  have hs2 := hB2.size
  clear hb
  clear hB1 hs1
  go_wp2_with fail
  go_returns
  exact ⟨rfl, hB2⟩

set_option maxRecDepth 100000 in
set_option maxHeartbeats 6400000 in
theorem alone4_far {bs : List Bk} {ts cs : List Int} {at1 at2 : Option Addr} {n m c1 c2 : Nat} {p : Int} {v : Value} {w : World} (h : rowE bs = 0) (hl : n ≤ 30) (hx : Hid (cosB ts cs = true)) (hp : 0 ≤ p) (hf : (bs.length : Int) ≤ p) (hn : Hid (ts.length = n)) (hm : Hid (cs.length = m)) (h1 : IsB w v bs) (hi : Ints w .u64 at1 c1 ts) (hj : Ints w .i64 at2 c2 cs) :
    Calls Try.prog 10 #[v, .slice at1 n c1, .slice at2 m c2, .int .i64 p] w fun e w' => e = .returned (.bool true) ∧ Below w.heap.size w w' := by
  have i1 : n ≤ c1 := by have := hi.room; have := hn.out; omega
  have i2 := hi.most
  have j1 : m ≤ c2 := by have := hj.room; have := hm.out; omega
  have j2 := hj.most
  have d1 : decide ((30 : Int) < (n : Int)) = false := decide_eq_false (by omega)
  have J0 := Lib.hid hj
  obtain ⟨nb, hnb⟩ : ∃ y, bs.length = y := ⟨_, rfl⟩
  obtain ⟨a0, c0, rfl, q0, z0, HB⟩ := h1.openM hnb
  rw [hnb] at hf
  have d2 : decide (p < 0) = false := decide_eq_false (by omega)
  have d3 : decide (p ≥ (nb : Int)) = true := decide_eq_true hf
  have d3' : decide ((nb : Int) ≤ p) = true := decide_eq_true hf
  clear hnb HB
  go_enter Try.func10, Try.ntmps10
  go_wp2_with fail
  refine (fit_yes h h1).mono ?_
  rintro e w1 ⟨rfl, hb⟩
  have hB1 : Below w.heap.size w w1 := below_thru (by go_grown) hb
  have hs1 := hB1.size
  clear hb
  have J1 := Lib.hid (J0.out.below hB1)
  go_wp2_with fail
  refine (rcosts_is _ hn hm hx J1.out).mono ?_
  rintro e _ ⟨rfl, rfl⟩
  go_wp2_with fail
  refine (alive04_any _).mono ?_
  rintro e w2 ⟨rfl, hb⟩
  have hB2 : Below w.heap.size w w2 := below_thru (by go_grown) hb
  have hs2 := hB2.size
  clear hb
  clear hB1 hs1
  go_wp2_with fail
  go_returns
  exact ⟨rfl, hB2⟩

set_option maxRecDepth 100000 in
set_option maxHeartbeats 12800000 in
theorem alone4_main {bs : List Bk} {ts cs : List Int} {at1 at2 : Option Addr} {n m c1 c2 : Nat} {v : Value} {w : World} (hr : Row bs) (ht : ∀ k, k < ts.length → isU (nth ts k)) (hl : n ≤ 30) (hx : Hid (cosB ts cs = true)) (p : Nat) (hp0 : p < bs.length) (hn : Hid (ts.length = n)) (hm : Hid (cs.length = m)) (h1 : IsB w v bs) (hi : Ints w .u64 at1 c1 ts) (hj : Ints w .i64 at2 c2 cs) :
    Calls Try.prog 10 #[v, .slice at1 n c1, .slice at2 m c2, .int .i64 (p : Int)] w fun e w' => e = .returned (.bool true) ∧ Below w.heap.size w w' := by
  have i1 : n ≤ c1 := by have := hi.room; have := hn.out; omega
  have i2 := hi.most
  have j1 : m ≤ c2 := by have := hj.room; have := hm.out; omega
  have j2 := hj.most
  have h := hr.e
  have he : Entries ts cs := ⟨by have := hn.out; omega, (cosB_yes hx.out).1, ht, (cosB_yes hx.out).2⟩
  have hmn : m = n := by have := he.same; have := hn.out; have := hm.out; omega
  subst hmn
  obtain ⟨nb, hnb⟩ : ∃ y, bs.length = y := ⟨_, rfl⟩
  rw [hnb] at hp0
  obtain ⟨a0, k0, rfl, q0, z0, HB⟩ := h1.openM hnb
  obtain ⟨zs, ez⟩ : ∃ y, runR bs ts cs m = y := ⟨_, rfl⟩
  obtain ⟨aa, ea⟩ : ∃ y, runA bs ts cs m = y := ⟨_, rfl⟩
  have HLZ := Lib.hid (show zs.length = nb by rw [← ez, runR_len, hnb])
  have HLA := Lib.hid (show aa.length = m by rw [← ea]; exact runA_len bs ts cs m)
  have HNB := Lib.hid hnb
  have HT := Lib.hid he
  have HR := Lib.hid hr
  have EZ := Lib.hid ez
  have EA := Lib.hid ea
  have H1 := Lib.hid h1
  have I1 := Lib.hid hi
  have J1 := Lib.hid hj
  have d1 : decide ((30 : Int) < (m : Int)) = false := decide_eq_false (by omega)
  have d2 : decide ((p : Int) < 0) = false := decide_eq_false (by omega)
  have d3 : decide ((p : Int) ≥ (nb : Int)) = false := decide_eq_false (by omega)
  have d3' : decide ((nb : Int) ≤ (p : Int)) = false := decide_eq_false (by omega)
  have d3'' : decide (nb ≤ p) = false := decide_eq_false (by omega)
  have g1 : (0 : Int) ≤ (p : Int) := by omega
  have g2 : (p : Int) < (nb : Int) := by omega
  clear hr he ez ea h1 hi hj hnb
  go_enter Try.func10, Try.ntmps10
  go_wp2_with fail
  refine (fit_yes h H1.out).mono ?_
  rintro e w1 ⟨rfl, hb⟩
  have hB1 : Below w.heap.size w w1 := below_thru (by go_grown) hb
  have hs1 := hB1.size
  have H1_ : Hid (IsB w1 (.slice a0 nb k0) bs) := Lib.hid (by first | exact H1.out.below hb | exact (H1.out.alloc _).below hb | exact ((H1.out.alloc _).alloc _).below hb | exact (((H1.out.alloc _).alloc _).alloc _).below hb | exact H1.out.drew.below hb)
  clear H1; have H1 := H1_; clear H1_
  have I1_ : Hid (Ints w1 .u64 at1 c1 ts) := Lib.hid (by first | exact I1.out.below hb | exact (I1.out.alloc _).below hb | exact ((I1.out.alloc _).alloc _).below hb | exact (((I1.out.alloc _).alloc _).alloc _).below hb | exact I1.out.drew.below hb)
  clear I1; have I1 := I1_; clear I1_
  have J1_ : Hid (Ints w1 .i64 at2 c2 cs) := Lib.hid (by first | exact J1.out.below hb | exact (J1.out.alloc _).below hb | exact ((J1.out.alloc _).alloc _).below hb | exact (((J1.out.alloc _).alloc _).alloc _).below hb | exact J1.out.drew.below hb)
  clear J1; have J1 := J1_; clear J1_
  have HB_ : Hid (Bks w1 a0 k0 bs) := Lib.hid (by first | exact HB.out.below hb | exact (HB.out.alloc _).below hb | exact ((HB.out.alloc _).alloc _).below hb | exact (((HB.out.alloc _).alloc _).alloc _).below hb | exact HB.out.drew.below hb)
  clear HB; have HB := HB_; clear HB_
  clear hb
  go_wp2_with fail
  refine (rcosts_is _ hn hm hx J1.out).mono ?_
  rintro e _ ⟨rfl, rfl⟩
  go_wp2_with fail
  refine (lrun_is HR.out HT.out hn EZ EA H1.out I1.out J1.out).mono ?_
  rintro e w2 ⟨v2, u2, rfl, ho, hu, hb⟩
  have hB2 : Below w.heap.size w w2 := below_thru hB1 hb
  have hs2 := hB2.size
  have O2 : Hid (OwnB w.heap.size w2 v2 zs) := Lib.hid (ho.base hs1)
  obtain ⟨a3, k3, rfl, q3, z3, B3⟩ := O2.out.is.openM HLZ.out
  obtain ⟨a4, k4, rfl, q4, z4, B4⟩ := (IsV.own hu (bools_len _).symm).openB HLA.out
  have I2 := Lib.hid (I1.out.below hb)
  have J2 := Lib.hid (J1.out.below hb)
  have B2 := Lib.hid (HB.out.below hb)
  clear hb ho hu H1 I1 J1 HB hB1 hs1 O2
  obtain ⟨⟨bu, ra, pe, le, pt, a⟩, ebk⟩ : ∃ x, bk bs p = x := ⟨_, rfl⟩
  obtain ⟨b0, o0, rfl, C0, C1, C2, C3, C4, C5⟩ := B2.out.atw (by have := HNB.out; omega) ebk
  have zb := lt_of_cell C0
  have E0 := Lib.hid (show bk (runR bs ts cs 0) p = ⟨bu, ra, pe, le, pt, a⟩ from ebk)
  clear ebk
  have hB20 : Below w2.heap.size w2 w2 := Below.refl _ _
  have hs20 := hB20.size
  go_upto_region 7 with fail
  have x_b30 : Box (w2.alloc (.cells #[.int .i64 bu, .int .i64 ra, .int .i64 pe, .int .i64 le, .int .i64 pt, .int .u64 a] 26)) w2.heap.size [.int .i64 bu, .int .i64 ra, .int .i64 pe, .int .i64 le, .int .i64 pt, .int .u64 a] := Box.new rfl
  have hB30 := hB20.alloc hs20 (.cells #[.int .i64 bu, .int .i64 ra, .int .i64 pe, .int .i64 le, .int .i64 pt, .int .u64 a] 26)
  have hs30 := hB30.size
  obtain ⟨w30, h9⟩ : ∃ W, w2.alloc (.cells #[.int .i64 bu, .int .i64 ra, .int .i64 pe, .int .i64 le, .int .i64 pt, .int .u64 a] 26) = W := ⟨_, rfl⟩
  rw [h9] at x_b30 hB30 hs30 ⊢
  clear hB20 hs20 h9
  have z_b30 := x_b30.lt
  have c_b30_0 := x_b30.c 0 _ rfl; have f_b30_0 := x_b30.f 0 _ rfl
  have c_b30_1 := x_b30.c 1 _ rfl; have f_b30_1 := x_b30.f 1 _ rfl
  have c_b30_2 := x_b30.c 2 _ rfl; have f_b30_2 := x_b30.f 2 _ rfl
  have c_b30_3 := x_b30.c 3 _ rfl; have f_b30_3 := x_b30.f 3 _ rfl
  have c_b30_4 := x_b30.c 4 _ rfl; have f_b30_4 := x_b30.f 4 _ rfl
  have c_b30_5 := x_b30.c 5 _ rfl; have f_b30_5 := x_b30.f 5 _ rfl
  clear C0 C1 C2 C3 C4 C5
  go_wp2_with fail
  go_loopw [13] (fun s13 wr => ∃ (k : Nat) (bu ra pe lv pv t : Int), s13 = .int .i64 k ∧ k ≤ m ∧ Hid (bk (runR bs ts cs k) p = ⟨bu, ra, pe, lv, pv, t⟩) ∧ Box wr (w2.heap.size) [.int .i64 bu, .int .i64 ra, .int .i64 pe, .int .i64 lv, .int .i64 pv, .int .u64 t] ∧ Below w2.heap.size w2 wr) (fun s13 _ => m - (intOf s13).toNat)
  case atStart => exact ⟨0, bu, ra, pe, le, pt, a, rfl, by omega, E0, x_b30, hB30⟩
  case round =>
    clear hB30 hs30 x_b30 z_b30 c_b30_0 c_b30_1 c_b30_2 c_b30_3 c_b30_4 c_b30_5 f_b30_0 f_b30_1 f_b30_2 f_b30_3 f_b30_4 f_b30_5 E0
    obtain ⟨k, bu, ra, pe, lv, pv, t, rfl, hk, HK, x_b50, hB50⟩ := hrel
    have hs50 := hB50.size
    have hrow : Row (runR bs ts cs k) := runR_row HR.out HT.out k (by have := hn.out; omega)
    have hpr : p < (runR bs ts cs k).length := by rw [runR_len]; have := HNB.out; omega
    have hbuc : Buc bu ra pe lv pv t := by have := hrow.at hpr; rw [HK.out] at this; exact this
    have HB1 := Lib.hid hbuc
    have htk0 := hbuc.tick
    clear hbuc
    by_cases hlt : k < m
    case neg =>
      obtain rfl : k = m := by omega
      obtain ⟨b3, o3, rfl, G0, G1, G2, G3, G4, G5⟩ := B3.out.atw (by have := HLZ.out; omega) (show bk zs p = ⟨bu, ra, pe, lv, pv, t⟩ by rw [← EZ.out]; exact HK.out)
      have zg := lt_of_cell G0
      have K1 := Lib.hid HB1.out.ok
      clear hrow hpr htk0
      have z_b50 := x_b50.lt
      have c_b50_0 := x_b50.c 0 _ rfl; have f_b50_0 := x_b50.f 0 _ rfl
      have c_b50_1 := x_b50.c 1 _ rfl; have f_b50_1 := x_b50.f 1 _ rfl
      have c_b50_2 := x_b50.c 2 _ rfl; have f_b50_2 := x_b50.f 2 _ rfl
      have c_b50_3 := x_b50.c 3 _ rfl; have f_b50_3 := x_b50.f 3 _ rfl
      have c_b50_4 := x_b50.c 4 _ rfl; have f_b50_4 := x_b50.f 4 _ rfl
      have c_b50_5 := x_b50.c 5 _ rfl; have f_b50_5 := x_b50.f 5 _ rfl
      have c_g050 := cell_below hB50 G0
      have c_g150 := cell_below hB50 G1
      have c_g250 := cell_below hB50 G2
      have c_g350 := cell_below hB50 G3
      have c_g450 := cell_below hB50 G4
      have c_g550 := cell_below hB50 G5
      go_upto_region 19 with fail
      go_cut [8] (fun q0 wx => q0 = .bool true ∧ Box wx (w2.heap.size) [.int .i64 bu, .int .i64 ra, .int .i64 pe, .int .i64 lv, .int .i64 pv, .int .u64 t] ∧ Below w2.heap.size w2 wx)
      case first =>
        as_aux_lemma =>
          go_region_held3 (fun w' => w'.cell? ⟨w2.heap.size, 0, none⟩ = some (.int .i64 bu) ∧ w'.cell? ⟨w2.heap.size, 1, none⟩ = some (.int .i64 ra) ∧ w'.cell? ⟨w2.heap.size, 2, none⟩ = some (.int .i64 pe) ∧ w'.cell? ⟨w2.heap.size, 3, none⟩ = some (.int .i64 lv) ∧ w'.cell? ⟨w2.heap.size, 4, none⟩ = some (.int .i64 pv) ∧ w'.cell? ⟨w2.heap.size, 5, none⟩ = some (.int .u64 t) ∧ w'.cell? ⟨b3, o3 + p * 6, none⟩ = some (.int .i64 bu) ∧ w'.cell? ⟨b3, o3 + p * 6 + 1, none⟩ = some (.int .i64 ra) ∧ w'.cell? ⟨b3, o3 + p * 6 + 2, none⟩ = some (.int .i64 pe) ∧ w'.cell? ⟨b3, o3 + p * 6 + 3, none⟩ = some (.int .i64 lv) ∧ w'.cell? ⟨b3, o3 + p * 6 + 4, none⟩ = some (.int .i64 pv) ∧ w'.cell? ⟨b3, o3 + p * 6 + 5, none⟩ = some (.int .u64 t)) (((repeat' apply And.intro) <;> (first | (go_keep; done) | go_cell)))
            (first
              | (go_at_call 12; refine (rcheck_is K1 _).mono ?_; rintro e v1 ⟨rfl, hv1⟩; have hV1 : Below w2.heap.size w2 v1 := below_thru (by go_grown) hv1; have hs_v1 : w2.heap.size ≤ v1.heap.size := hV1.size; have x_b_v1 : Box v1 (w2.heap.size) [.int .i64 bu, .int .i64 ra, .int .i64 pe, .int .i64 lv, .int .i64 pv, .int .u64 t] := (by refine Box.below ?_ hv1; repeat (first | (with_reducible assumption) | (with_reducible refine Box.drew ?_) | (with_reducible refine Box.drewN ?_ _) | ((with_reducible refine Box.new ?_); simp; done) | (with_reducible apply Box.set2) | ((with_reducible apply Box.put); (with_reducible assumption); rfl) | (with_reducible refine Box.alloc ?_ _) | (with_reducible refine Box.other ?_ (by first | (dsimp only; omega) | omega) _))); have z_b_v1 := x_b_v1.lt; have c_b_v1_0 := x_b_v1.c 0 _ rfl; have f_b_v1_0 := x_b_v1.f 0 _ rfl; have c_b_v1_1 := x_b_v1.c 1 _ rfl; have f_b_v1_1 := x_b_v1.f 1 _ rfl; have c_b_v1_2 := x_b_v1.c 2 _ rfl; have f_b_v1_2 := x_b_v1.f 2 _ rfl; have c_b_v1_3 := x_b_v1.c 3 _ rfl; have f_b_v1_3 := x_b_v1.f 3 _ rfl; have c_b_v1_4 := x_b_v1.c 4 _ rfl; have f_b_v1_4 := x_b_v1.f 4 _ rfl; have c_b_v1_5 := x_b_v1.c 5 _ rfl; have f_b_v1_5 := x_b_v1.f 5 _ rfl; have c_g0_v1 := cell_below hV1 G0; have c_g1_v1 := cell_below hV1 G1; have c_g2_v1 := cell_below hV1 G2; have c_g3_v1 := cell_below hV1 G3; have c_g4_v1 := cell_below hV1 G4; have c_g5_v1 := cell_below hV1 G5)
              | (go_at_call 26; refine (alive04_any _).mono ?_; rintro e v2 ⟨rfl, hv2⟩; have hV2 : Below w2.heap.size w2 v2 := below_thru (by go_grown) hv2; have hs_v2 : w2.heap.size ≤ v2.heap.size := hV2.size; have x_b_v2 : Box v2 (w2.heap.size) [.int .i64 bu, .int .i64 ra, .int .i64 pe, .int .i64 lv, .int .i64 pv, .int .u64 t] := (by refine Box.below ?_ hv2; repeat (first | (with_reducible assumption) | (with_reducible refine Box.drew ?_) | (with_reducible refine Box.drewN ?_ _) | ((with_reducible refine Box.new ?_); simp; done) | (with_reducible apply Box.set2) | ((with_reducible apply Box.put); (with_reducible assumption); rfl) | (with_reducible refine Box.alloc ?_ _) | (with_reducible refine Box.other ?_ (by first | (dsimp only; omega) | omega) _))); have z_b_v2 := x_b_v2.lt; have c_b_v2_0 := x_b_v2.c 0 _ rfl; have f_b_v2_0 := x_b_v2.f 0 _ rfl; have c_b_v2_1 := x_b_v2.c 1 _ rfl; have f_b_v2_1 := x_b_v2.f 1 _ rfl; have c_b_v2_2 := x_b_v2.c 2 _ rfl; have f_b_v2_2 := x_b_v2.f 2 _ rfl; have c_b_v2_3 := x_b_v2.c 3 _ rfl; have f_b_v2_3 := x_b_v2.f 3 _ rfl; have c_b_v2_4 := x_b_v2.c 4 _ rfl; have f_b_v2_4 := x_b_v2.f 4 _ rfl; have c_b_v2_5 := x_b_v2.c 5 _ rfl; have f_b_v2_5 := x_b_v2.f 5 _ rfl; have c_g0_v2 := cell_below hV2 G0; have c_g1_v2 := cell_below hV2 G1; have c_g2_v2 := cell_below hV2 G2; have c_g3_v2 := cell_below hV2 G3; have c_g4_v2 := cell_below hV2 G4; have c_g5_v2 := cell_below hV2 G5))
          all_goals
            go_wp2_with fail
            go_meet
            refine ⟨rfl, ?_, ?_⟩
            all_goals first
              | ((repeat (first | (with_reducible assumption) | (with_reducible refine Box.drew ?_) | (with_reducible refine Box.drewN ?_ _) | ((with_reducible refine Box.new ?_); simp; done) | (with_reducible apply Box.set2) | (with_reducible refine Box.alloc ?_ _) | (with_reducible refine Box.other ?_ (by first | (dsimp only; omega) | omega) _))); done)
              | (go_grown; done)
      case rest =>
        as_aux_lemma =>
          obtain ⟨rfl, x_b51, hB51⟩ := hcut
          obtain ⟨w51, rfl⟩ : ∃ u : World, u = wc := ⟨_, rfl⟩
          clear hB50 hs50 c_g050 c_g150 c_g250 c_g350 c_g450 c_g550 x_b50 z_b50 c_b50_0 c_b50_1 c_b50_2 c_b50_3 c_b50_4 c_b50_5 f_b50_0 f_b50_1 f_b50_2 f_b50_3 f_b50_4 f_b50_5
          have c_g051 := cell_below hB51 G0
          have c_g151 := cell_below hB51 G1
          have c_g251 := cell_below hB51 G2
          have c_g351 := cell_below hB51 G3
          have c_g451 := cell_below hB51 G4
          have c_g551 := cell_below hB51 G5
          have hs51 : w2.heap.size ≤ w51.heap.size := hB51.size
          have z_b51 := x_b51.lt
          have c_b51_0 := x_b51.c 0 _ rfl; have f_b51_0 := x_b51.f 0 _ rfl
          have c_b51_1 := x_b51.c 1 _ rfl; have f_b51_1 := x_b51.f 1 _ rfl
          have c_b51_2 := x_b51.c 2 _ rfl; have f_b51_2 := x_b51.f 2 _ rfl
          have c_b51_3 := x_b51.c 3 _ rfl; have f_b51_3 := x_b51.f 3 _ rfl
          have c_b51_4 := x_b51.c 4 _ rfl; have f_b51_4 := x_b51.f 4 _ rfl
          have c_b51_5 := x_b51.c 5 _ rfl; have f_b51_5 := x_b51.f 5 _ rfl
          go_wp2_with fail
          go_returns
          exact ⟨rfl, hB2.trans (hB51.mono hs2)⟩
    case pos =>
      obtain ⟨b1, o1, rfl, T0⟩ := I2.out.at (show k < ts.length by have := hn.out; omega)
      obtain ⟨b2, o2, rfl, U0⟩ := J2.out.at (show k < cs.length by have := hm.out; omega)
      obtain ⟨b4, o4, rfl, D0⟩ := B4.out.atB (show k < aa.length by have := HLA.out; omega)
      have hti : isU (nth ts k) := HT.out.tick k (by have := hn.out; omega)
      have hci : 0 ≤ nth cs k := HT.out.cost k (by have := hm.out; omega)
      have hbat : bat aa k = takB (runR bs ts cs k) (nth ts k) (nth cs k) := by rw [← EA.out]; exact bat_runA hlt
      obtain ⟨tk, etk⟩ : ∃ x, nth ts k = x := ⟨_, rfl⟩
      obtain ⟨co, eco⟩ : ∃ x, nth cs k = x := ⟨_, rfl⟩
      rw [etk] at T0 hti hbat
      rw [eco] at U0 hci hbat
      have er1 : runR bs ts cs (k + 1) = takV (runR bs ts cs k) tk co := by rw [← etk, ← eco]; rfl
      obtain ⟨rs, ers⟩ : ∃ x, runR bs ts cs k = x := ⟨_, rfl⟩
      rw [ers] at hbat er1 hpr
      have hkb : bk rs p = ⟨bu, ra, pe, lv, pv, t⟩ := by rw [← ers]; exact HK.out
      obtain ⟨L, e1⟩ : ∃ x, filL bu ra pe lv pv t tk = x := ⟨_, rfl⟩
      obtain ⟨Q, e2⟩ : ∃ x, filP bu ra pe lv pv t tk = x := ⟨_, rfl⟩
      obtain ⟨T, e3⟩ : ∃ x, filA t tk = x := ⟨_, rfl⟩
      have efl : Bk.fil tk (bk rs p) = ⟨bu, ra, pe, L, Q, T⟩ := by rw [hkb, ← e1, ← e2, ← e3]; rfl
      have bF : Buc bu ra pe L Q T := by have := HB1.out.filled hti; rw [e1, e2, e3] at this; exact this
      have hll : L ≤ 1000000000 := by have := bF.l1; have := bF.nums; omega
      have hbk := bk_tak (t := tk) (c := co) hpr
      rw [efl, ← er1] at hbk
      obtain ⟨x2, ex2⟩ : ∃ x, takB rs tk co = x := ⟨_, rfl⟩
      rw [hbat, ex2] at D0
      rw [ex2] at hbk
      have zt := lt_of_cell T0
      have zc := lt_of_cell U0
      have zd := lt_of_cell D0
      have hkm : (k : Int) < (m : Int) := by omega
      have hk0 : (0 : Int) ≤ (k : Int) := by omega
      have E1 := Lib.hid e1
      have E2 := Lib.hid e2
      have E3 := Lib.hid e3
      have K1 := Lib.hid bF.ok
      cases x2
      case true =>
        have hch : co ≤ L := by have := tak_le hpr ex2; rw [efl] at this; exact this
        obtain ⟨D, f1⟩ : ∃ x, L - co = x := ⟨_, rfl⟩
        have F1 := Lib.hid f1
        have HK2 : Hid (bk (runR bs ts cs (k + 1)) p = ⟨bu, ra, pe, D, Q, T⟩) := Lib.hid (by rw [hbk, ← f1]; rfl)
        clear f1 hbk e1 e2 e3 bF hrow hpr htk0 efl hkb ers er1 hbat ex2 etk eco HK
        have z_b50 := x_b50.lt
        have c_b50_0 := x_b50.c 0 _ rfl; have f_b50_0 := x_b50.f 0 _ rfl
        have c_b50_1 := x_b50.c 1 _ rfl; have f_b50_1 := x_b50.f 1 _ rfl
        have c_b50_2 := x_b50.c 2 _ rfl; have f_b50_2 := x_b50.f 2 _ rfl
        have c_b50_3 := x_b50.c 3 _ rfl; have f_b50_3 := x_b50.f 3 _ rfl
        have c_b50_4 := x_b50.c 4 _ rfl; have f_b50_4 := x_b50.f 4 _ rfl
        have c_b50_5 := x_b50.c 5 _ rfl; have f_b50_5 := x_b50.f 5 _ rfl
        have c_t50 := cell_below hB50 T0
        have c_co50 := cell_below hB50 U0
        have c_ad50 := cell_below hB50 D0
        go_upto_region 10 with fail
        go_cut [14, 15] (fun p q0 wx => ∃ b : Nat, p = .pointer (some ⟨b, 0, none⟩) ∧ q0 = .int .i64 0 ∧ Box wx b [.int .i64 bu, .int .i64 ra, .int .i64 pe, .int .i64 L, .int .i64 Q, .int .u64 T] ∧ wr.heap.size ≤ b ∧ Box wx (w2.heap.size) [.int .i64 bu, .int .i64 ra, .int .i64 pe, .int .i64 lv, .int .i64 pv, .int .u64 t] ∧ Below w2.heap.size w2 wx)
        case first =>
          as_aux_lemma =>
            go_region_held3 (fun w' => w'.cell? ⟨w2.heap.size, 0, none⟩ = some (.int .i64 bu) ∧ w'.cell? ⟨w2.heap.size, 1, none⟩ = some (.int .i64 ra) ∧ w'.cell? ⟨w2.heap.size, 2, none⟩ = some (.int .i64 pe) ∧ w'.cell? ⟨w2.heap.size, 3, none⟩ = some (.int .i64 lv) ∧ w'.cell? ⟨w2.heap.size, 4, none⟩ = some (.int .i64 pv) ∧ w'.cell? ⟨w2.heap.size, 5, none⟩ = some (.int .u64 t) ∧ w'.cell? ⟨b1, o1 + k, none⟩ = some (.int .u64 tk)) (((repeat' apply And.intro) <;> (first | (go_keep; done) | go_cell)))
              (first
                | (go_at_call 15; refine (refill_ok HB1.out hti E1 E2 E3 _).mono ?_; rintro e v1 ⟨rfl, hv1⟩; have hV1 : Below w2.heap.size w2 v1 := below_thru (by go_grown) hv1; have hs_v1 : w2.heap.size ≤ v1.heap.size := hV1.size; have x_b_v1 : Box v1 (w2.heap.size) [.int .i64 bu, .int .i64 ra, .int .i64 pe, .int .i64 lv, .int .i64 pv, .int .u64 t] := (by refine Box.below ?_ hv1; repeat (first | (with_reducible assumption) | (with_reducible refine Box.drew ?_) | (with_reducible refine Box.drewN ?_ _) | ((with_reducible refine Box.new ?_); simp; done) | (with_reducible apply Box.set2) | ((with_reducible apply Box.put); (with_reducible assumption); rfl) | (with_reducible refine Box.alloc ?_ _) | (with_reducible refine Box.other ?_ (by first | (dsimp only; omega) | omega) _))); have z_b_v1 := x_b_v1.lt; have c_b_v1_0 := x_b_v1.c 0 _ rfl; have f_b_v1_0 := x_b_v1.f 0 _ rfl; have c_b_v1_1 := x_b_v1.c 1 _ rfl; have f_b_v1_1 := x_b_v1.f 1 _ rfl; have c_b_v1_2 := x_b_v1.c 2 _ rfl; have f_b_v1_2 := x_b_v1.f 2 _ rfl; have c_b_v1_3 := x_b_v1.c 3 _ rfl; have f_b_v1_3 := x_b_v1.f 3 _ rfl; have c_b_v1_4 := x_b_v1.c 4 _ rfl; have f_b_v1_4 := x_b_v1.f 4 _ rfl; have c_b_v1_5 := x_b_v1.c 5 _ rfl; have f_b_v1_5 := x_b_v1.f 5 _ rfl; have c_t_v1 := cell_below hV1 T0; have c_co_v1 := cell_below hV1 U0; have c_ad_v1 := cell_below hV1 D0; have t_v1 := hv1.size; try simp at t_v1; (first | (with_reducible have y := Box.below (Box.drew (Box.new rfl)) hv1) | (with_reducible have y := Box.below (Box.new rfl) hv1) | (with_reducible have y := Box.below y hv1) | (have y := trivial)); (try simp only [World.size_alloc] at y); try (have yz := Box.lt y; have y0 := Box.c y 0 _ rfl; have yf0 := Box.f y 0 _ rfl; have y1 := Box.c y 1 _ rfl; have yf1 := Box.f y 1 _ rfl; have y2 := Box.c y 2 _ rfl; have yf2 := Box.f y 2 _ rfl; have y3 := Box.c y 3 _ rfl; have yf3 := Box.f y 3 _ rfl; have y4 := Box.c y 4 _ rfl; have yf4 := Box.f y 4 _ rfl; have y5 := Box.c y 5 _ rfl; have yf5 := Box.f y 5 _ rfl)))
            all_goals
              go_wp2_with fail
              go_meet
              refine ⟨_, rfl, rfl, ?_, ?_, ?_, ?_⟩
              all_goals first
                | (first | (dsimp only; omega) | omega | (simp; omega))
                | ((repeat (first | (with_reducible apply put6) | (with_reducible refine other6 ?_ (by first | (dsimp only; omega) | omega) _ _ _ _ _ _) | (with_reducible assumption) | (with_reducible refine Box.drew ?_) | (with_reducible refine Box.drewN ?_ _) | ((with_reducible refine Box.new ?_); simp; done) | (with_reducible apply Box.set2) | (with_reducible refine Box.alloc ?_ _) | (with_reducible refine Box.other ?_ (by first | (dsimp only; omega) | omega) _))); done)
                | (go_grown; done)
        case rest =>
          as_aux_lemma =>
            obtain ⟨b51, rfl, rfl, x_c51, lo_c51, x_b51, hB51⟩ := hcut
            obtain ⟨w51, rfl⟩ : ∃ u : World, u = wc := ⟨_, rfl⟩
            have o_c_b := Nat.lt_of_lt_of_le z_b50 lo_c51
            clear hB50 hs50 c_t50 c_co50 c_ad50 x_b50 z_b50 c_b50_0 c_b50_1 c_b50_2 c_b50_3 c_b50_4 c_b50_5 f_b50_0 f_b50_1 f_b50_2 f_b50_3 f_b50_4 f_b50_5
            have c_t51 := cell_below hB51 T0
            have c_co51 := cell_below hB51 U0
            have c_ad51 := cell_below hB51 D0
            have hs51 : w2.heap.size ≤ w51.heap.size := hB51.size
            have z_b51 := x_b51.lt
            have c_b51_0 := x_b51.c 0 _ rfl; have f_b51_0 := x_b51.f 0 _ rfl
            have c_b51_1 := x_b51.c 1 _ rfl; have f_b51_1 := x_b51.f 1 _ rfl
            have c_b51_2 := x_b51.c 2 _ rfl; have f_b51_2 := x_b51.f 2 _ rfl
            have c_b51_3 := x_b51.c 3 _ rfl; have f_b51_3 := x_b51.f 3 _ rfl
            have c_b51_4 := x_b51.c 4 _ rfl; have f_b51_4 := x_b51.f 4 _ rfl
            have c_b51_5 := x_b51.c 5 _ rfl; have f_b51_5 := x_b51.f 5 _ rfl
            have z_c51 := x_c51.lt
            have c_c51_0 := x_c51.c 0 _ rfl; have f_c51_0 := x_c51.f 0 _ rfl
            have c_c51_1 := x_c51.c 1 _ rfl; have f_c51_1 := x_c51.f 1 _ rfl
            have c_c51_2 := x_c51.c 2 _ rfl; have f_c51_2 := x_c51.f 2 _ rfl
            have c_c51_3 := x_c51.c 3 _ rfl; have f_c51_3 := x_c51.f 3 _ rfl
            have c_c51_4 := x_c51.c 4 _ rfl; have f_c51_4 := x_c51.f 4 _ rfl
            have c_c51_5 := x_c51.c 5 _ rfl; have f_c51_5 := x_c51.f 5 _ rfl
            go_upto_region 14 with fail
            have x_b62 := put6 x_b51 (.int .i64 bu) (.int .i64 ra) (.int .i64 pe) (.int .i64 L) (.int .i64 Q) (.int .u64 T)
            have hB62 := below6 hB51 (.int .i64 bu) (.int .i64 ra) (.int .i64 pe) (.int .i64 L) (.int .i64 Q) (.int .u64 T)
            obtain ⟨w62, h9⟩ : ∃ W, ((((((w51.setCell ⟨w2.heap.size, 0, none⟩ (.int .i64 bu)).setCell ⟨w2.heap.size, 1, none⟩ (.int .i64 ra)).setCell ⟨w2.heap.size, 2, none⟩ (.int .i64 pe)).setCell ⟨w2.heap.size, 3, none⟩ (.int .i64 L)).setCell ⟨w2.heap.size, 4, none⟩ (.int .i64 Q)).setCell ⟨w2.heap.size, 5, none⟩ (.int .u64 T)) = W := ⟨_, rfl⟩
            rw [h9] at x_b62 hB62 ⊢
            have hs62 := hB62.size
            clear hB51 hs51 h9 x_b51 z_b51 c_b51_0 c_b51_1 c_b51_2 c_b51_3 c_b51_4 c_b51_5 f_b51_0 f_b51_1 f_b51_2 f_b51_3 f_b51_4 f_b51_5 x_c51 z_c51 c_c51_0 c_c51_1 c_c51_2 c_c51_3 c_c51_4 c_c51_5 f_c51_0 f_c51_1 f_c51_2 f_c51_3 f_c51_4 f_c51_5
            have z_b62 := x_b62.lt
            have c_b62_0 := x_b62.c 0 _ rfl; have f_b62_0 := x_b62.f 0 _ rfl
            have c_b62_1 := x_b62.c 1 _ rfl; have f_b62_1 := x_b62.f 1 _ rfl
            have c_b62_2 := x_b62.c 2 _ rfl; have f_b62_2 := x_b62.f 2 _ rfl
            have c_b62_3 := x_b62.c 3 _ rfl; have f_b62_3 := x_b62.f 3 _ rfl
            have c_b62_4 := x_b62.c 4 _ rfl; have f_b62_4 := x_b62.f 4 _ rfl
            have c_b62_5 := x_b62.c 5 _ rfl; have f_b62_5 := x_b62.f 5 _ rfl
            have c_t62 := cell_below hB62 T0
            have c_co62 := cell_below hB62 U0
            have c_ad62 := cell_below hB62 D0
            go_upto_region 15 with fail
            go_cut [16, 17] (fun p q0 wx => ∃ b : Nat, p = .pointer (some ⟨b, 0, none⟩) ∧ q0 = .int .i64 0 ∧ Box wx b [.int .i64 bu, .int .i64 ra, .int .i64 pe, .int .i64 D, .int .i64 Q, .int .u64 T] ∧ w62.heap.size ≤ b ∧ Box wx (w2.heap.size) [.int .i64 bu, .int .i64 ra, .int .i64 pe, .int .i64 L, .int .i64 Q, .int .u64 T] ∧ Below w2.heap.size w2 wx)
            case first =>
              as_aux_lemma =>
                go_region_held3 (fun w' => w'.cell? ⟨w2.heap.size, 0, none⟩ = some (.int .i64 bu) ∧ w'.cell? ⟨w2.heap.size, 1, none⟩ = some (.int .i64 ra) ∧ w'.cell? ⟨w2.heap.size, 2, none⟩ = some (.int .i64 pe) ∧ w'.cell? ⟨w2.heap.size, 3, none⟩ = some (.int .i64 L) ∧ w'.cell? ⟨w2.heap.size, 4, none⟩ = some (.int .i64 Q) ∧ w'.cell? ⟨w2.heap.size, 5, none⟩ = some (.int .u64 T) ∧ w'.cell? ⟨b2, o2 + k, none⟩ = some (.int .i64 co)) (((repeat' apply And.intro) <;> (first | (go_keep; done) | go_cell)))
                  (first
                    | (go_at_call 16; refine (charge_is K1 hci hch hll F1 _).mono ?_; rintro e v1 ⟨rfl, hv1⟩; have hV1 : Below w2.heap.size w2 v1 := below_thru (by go_grown) hv1; have hs_v1 : w2.heap.size ≤ v1.heap.size := hV1.size; have x_b_v1 : Box v1 (w2.heap.size) [.int .i64 bu, .int .i64 ra, .int .i64 pe, .int .i64 L, .int .i64 Q, .int .u64 T] := (by refine Box.below ?_ hv1; repeat (first | (with_reducible assumption) | (with_reducible refine Box.drew ?_) | (with_reducible refine Box.drewN ?_ _) | ((with_reducible refine Box.new ?_); simp; done) | (with_reducible apply Box.set2) | ((with_reducible apply Box.put); (with_reducible assumption); rfl) | (with_reducible refine Box.alloc ?_ _) | (with_reducible refine Box.other ?_ (by first | (dsimp only; omega) | omega) _))); have z_b_v1 := x_b_v1.lt; have c_b_v1_0 := x_b_v1.c 0 _ rfl; have f_b_v1_0 := x_b_v1.f 0 _ rfl; have c_b_v1_1 := x_b_v1.c 1 _ rfl; have f_b_v1_1 := x_b_v1.f 1 _ rfl; have c_b_v1_2 := x_b_v1.c 2 _ rfl; have f_b_v1_2 := x_b_v1.f 2 _ rfl; have c_b_v1_3 := x_b_v1.c 3 _ rfl; have f_b_v1_3 := x_b_v1.f 3 _ rfl; have c_b_v1_4 := x_b_v1.c 4 _ rfl; have f_b_v1_4 := x_b_v1.f 4 _ rfl; have c_b_v1_5 := x_b_v1.c 5 _ rfl; have f_b_v1_5 := x_b_v1.f 5 _ rfl; have c_t_v1 := cell_below hV1 T0; have c_co_v1 := cell_below hV1 U0; have c_ad_v1 := cell_below hV1 D0; have t_v1 := hv1.size; try simp at t_v1; (first | (with_reducible have y := Box.below (Box.drew (Box.new rfl)) hv1) | (with_reducible have y := Box.below (Box.new rfl) hv1) | (with_reducible have y := Box.below y hv1) | (have y := trivial)); (try simp only [World.size_alloc] at y); try (have yz := Box.lt y; have y0 := Box.c y 0 _ rfl; have yf0 := Box.f y 0 _ rfl; have y1 := Box.c y 1 _ rfl; have yf1 := Box.f y 1 _ rfl; have y2 := Box.c y 2 _ rfl; have yf2 := Box.f y 2 _ rfl; have y3 := Box.c y 3 _ rfl; have yf3 := Box.f y 3 _ rfl; have y4 := Box.c y 4 _ rfl; have yf4 := Box.f y 4 _ rfl; have y5 := Box.c y 5 _ rfl; have yf5 := Box.f y 5 _ rfl)))
                all_goals
                  go_wp2_with fail
                  go_meet
                  refine ⟨_, rfl, rfl, ?_, ?_, ?_, ?_⟩
                  all_goals first
                    | (first | (dsimp only; omega) | omega | (simp; omega))
                    | ((repeat (first | (with_reducible apply put6) | (with_reducible refine other6 ?_ (by first | (dsimp only; omega) | omega) _ _ _ _ _ _) | (with_reducible assumption) | (with_reducible refine Box.drew ?_) | (with_reducible refine Box.drewN ?_ _) | ((with_reducible refine Box.new ?_); simp; done) | (with_reducible apply Box.set2) | (with_reducible refine Box.alloc ?_ _) | (with_reducible refine Box.other ?_ (by first | (dsimp only; omega) | omega) _))); done)
                    | (go_grown; done)
            case rest =>
              as_aux_lemma =>
                obtain ⟨b63, rfl, rfl, x_d63, lo_d63, x_b63, hB63⟩ := hcut
                obtain ⟨w63, rfl⟩ : ∃ u : World, u = wc := ⟨_, rfl⟩
                have o_d_b := Nat.lt_of_lt_of_le z_b62 lo_d63
                clear hB62 hs62 c_t62 c_co62 c_ad62 x_b62 z_b62 c_b62_0 c_b62_1 c_b62_2 c_b62_3 c_b62_4 c_b62_5 f_b62_0 f_b62_1 f_b62_2 f_b62_3 f_b62_4 f_b62_5
                have c_t63 := cell_below hB63 T0
                have c_co63 := cell_below hB63 U0
                have c_ad63 := cell_below hB63 D0
                have hs63 : w2.heap.size ≤ w63.heap.size := hB63.size
                have z_b63 := x_b63.lt
                have c_b63_0 := x_b63.c 0 _ rfl; have f_b63_0 := x_b63.f 0 _ rfl
                have c_b63_1 := x_b63.c 1 _ rfl; have f_b63_1 := x_b63.f 1 _ rfl
                have c_b63_2 := x_b63.c 2 _ rfl; have f_b63_2 := x_b63.f 2 _ rfl
                have c_b63_3 := x_b63.c 3 _ rfl; have f_b63_3 := x_b63.f 3 _ rfl
                have c_b63_4 := x_b63.c 4 _ rfl; have f_b63_4 := x_b63.f 4 _ rfl
                have c_b63_5 := x_b63.c 5 _ rfl; have f_b63_5 := x_b63.f 5 _ rfl
                have z_d63 := x_d63.lt
                have c_d63_0 := x_d63.c 0 _ rfl; have f_d63_0 := x_d63.f 0 _ rfl
                have c_d63_1 := x_d63.c 1 _ rfl; have f_d63_1 := x_d63.f 1 _ rfl
                have c_d63_2 := x_d63.c 2 _ rfl; have f_d63_2 := x_d63.f 2 _ rfl
                have c_d63_3 := x_d63.c 3 _ rfl; have f_d63_3 := x_d63.f 3 _ rfl
                have c_d63_4 := x_d63.c 4 _ rfl; have f_d63_4 := x_d63.f 4 _ rfl
                have c_d63_5 := x_d63.c 5 _ rfl; have f_d63_5 := x_d63.f 5 _ rfl
                go_upto_region 9 with fail
                have x_b72 := put6 x_b63 (.int .i64 bu) (.int .i64 ra) (.int .i64 pe) (.int .i64 D) (.int .i64 Q) (.int .u64 T)
                have hB72 := below6 hB63 (.int .i64 bu) (.int .i64 ra) (.int .i64 pe) (.int .i64 D) (.int .i64 Q) (.int .u64 T)
                obtain ⟨w72, h9⟩ : ∃ W, ((((((w63.setCell ⟨w2.heap.size, 0, none⟩ (.int .i64 bu)).setCell ⟨w2.heap.size, 1, none⟩ (.int .i64 ra)).setCell ⟨w2.heap.size, 2, none⟩ (.int .i64 pe)).setCell ⟨w2.heap.size, 3, none⟩ (.int .i64 D)).setCell ⟨w2.heap.size, 4, none⟩ (.int .i64 Q)).setCell ⟨w2.heap.size, 5, none⟩ (.int .u64 T)) = W := ⟨_, rfl⟩
                rw [h9] at x_b72 hB72 ⊢
                have hs72 := hB72.size
                clear hB63 hs63 h9 x_b63 z_b63 c_b63_0 c_b63_1 c_b63_2 c_b63_3 c_b63_4 c_b63_5 f_b63_0 f_b63_1 f_b63_2 f_b63_3 f_b63_4 f_b63_5 x_d63 z_d63 c_d63_0 c_d63_1 c_d63_2 c_d63_3 c_d63_4 c_d63_5 f_d63_0 f_d63_1 f_d63_2 f_d63_3 f_d63_4 f_d63_5
                have z_b72 := x_b72.lt
                have c_b72_0 := x_b72.c 0 _ rfl; have f_b72_0 := x_b72.f 0 _ rfl
                have c_b72_1 := x_b72.c 1 _ rfl; have f_b72_1 := x_b72.f 1 _ rfl
                have c_b72_2 := x_b72.c 2 _ rfl; have f_b72_2 := x_b72.f 2 _ rfl
                have c_b72_3 := x_b72.c 3 _ rfl; have f_b72_3 := x_b72.f 3 _ rfl
                have c_b72_4 := x_b72.c 4 _ rfl; have f_b72_4 := x_b72.f 4 _ rfl
                have c_b72_5 := x_b72.c 5 _ rfl; have f_b72_5 := x_b72.f 5 _ rfl
                go_wp2_with fail
                go_roundw
                case rel => exact ⟨k + 1, bu, ra, pe, D, Q, T, by go_num, by omega, HK2, x_b72, hB72⟩
                case measure => simp [intOf]; omega
      case false =>
        have HK2 : Hid (bk (runR bs ts cs (k + 1)) p = ⟨bu, ra, pe, L, Q, T⟩) := Lib.hid (by rw [hbk]; rfl)
        clear hbk e1 e2 e3 bF hrow hpr htk0 efl hkb ers er1 hbat ex2 etk eco HK
        have z_b50 := x_b50.lt
        have c_b50_0 := x_b50.c 0 _ rfl; have f_b50_0 := x_b50.f 0 _ rfl
        have c_b50_1 := x_b50.c 1 _ rfl; have f_b50_1 := x_b50.f 1 _ rfl
        have c_b50_2 := x_b50.c 2 _ rfl; have f_b50_2 := x_b50.f 2 _ rfl
        have c_b50_3 := x_b50.c 3 _ rfl; have f_b50_3 := x_b50.f 3 _ rfl
        have c_b50_4 := x_b50.c 4 _ rfl; have f_b50_4 := x_b50.f 4 _ rfl
        have c_b50_5 := x_b50.c 5 _ rfl; have f_b50_5 := x_b50.f 5 _ rfl
        have c_t50 := cell_below hB50 T0
        have c_co50 := cell_below hB50 U0
        have c_ad50 := cell_below hB50 D0
        go_upto_region 10 with fail
        go_cut [14, 15] (fun p q0 wx => ∃ b : Nat, p = .pointer (some ⟨b, 0, none⟩) ∧ q0 = .int .i64 0 ∧ Box wx b [.int .i64 bu, .int .i64 ra, .int .i64 pe, .int .i64 L, .int .i64 Q, .int .u64 T] ∧ wr.heap.size ≤ b ∧ Box wx (w2.heap.size) [.int .i64 bu, .int .i64 ra, .int .i64 pe, .int .i64 lv, .int .i64 pv, .int .u64 t] ∧ Below w2.heap.size w2 wx)
        case first =>
          as_aux_lemma =>
            go_region_held3 (fun w' => w'.cell? ⟨w2.heap.size, 0, none⟩ = some (.int .i64 bu) ∧ w'.cell? ⟨w2.heap.size, 1, none⟩ = some (.int .i64 ra) ∧ w'.cell? ⟨w2.heap.size, 2, none⟩ = some (.int .i64 pe) ∧ w'.cell? ⟨w2.heap.size, 3, none⟩ = some (.int .i64 lv) ∧ w'.cell? ⟨w2.heap.size, 4, none⟩ = some (.int .i64 pv) ∧ w'.cell? ⟨w2.heap.size, 5, none⟩ = some (.int .u64 t) ∧ w'.cell? ⟨b1, o1 + k, none⟩ = some (.int .u64 tk)) (((repeat' apply And.intro) <;> (first | (go_keep; done) | go_cell)))
              (first
                | (go_at_call 15; refine (refill_ok HB1.out hti E1 E2 E3 _).mono ?_; rintro e v1 ⟨rfl, hv1⟩; have hV1 : Below w2.heap.size w2 v1 := below_thru (by go_grown) hv1; have hs_v1 : w2.heap.size ≤ v1.heap.size := hV1.size; have x_b_v1 : Box v1 (w2.heap.size) [.int .i64 bu, .int .i64 ra, .int .i64 pe, .int .i64 lv, .int .i64 pv, .int .u64 t] := (by refine Box.below ?_ hv1; repeat (first | (with_reducible assumption) | (with_reducible refine Box.drew ?_) | (with_reducible refine Box.drewN ?_ _) | ((with_reducible refine Box.new ?_); simp; done) | (with_reducible apply Box.set2) | ((with_reducible apply Box.put); (with_reducible assumption); rfl) | (with_reducible refine Box.alloc ?_ _) | (with_reducible refine Box.other ?_ (by first | (dsimp only; omega) | omega) _))); have z_b_v1 := x_b_v1.lt; have c_b_v1_0 := x_b_v1.c 0 _ rfl; have f_b_v1_0 := x_b_v1.f 0 _ rfl; have c_b_v1_1 := x_b_v1.c 1 _ rfl; have f_b_v1_1 := x_b_v1.f 1 _ rfl; have c_b_v1_2 := x_b_v1.c 2 _ rfl; have f_b_v1_2 := x_b_v1.f 2 _ rfl; have c_b_v1_3 := x_b_v1.c 3 _ rfl; have f_b_v1_3 := x_b_v1.f 3 _ rfl; have c_b_v1_4 := x_b_v1.c 4 _ rfl; have f_b_v1_4 := x_b_v1.f 4 _ rfl; have c_b_v1_5 := x_b_v1.c 5 _ rfl; have f_b_v1_5 := x_b_v1.f 5 _ rfl; have c_t_v1 := cell_below hV1 T0; have c_co_v1 := cell_below hV1 U0; have c_ad_v1 := cell_below hV1 D0; have t_v1 := hv1.size; try simp at t_v1; (first | (with_reducible have y := Box.below (Box.drew (Box.new rfl)) hv1) | (with_reducible have y := Box.below (Box.new rfl) hv1) | (with_reducible have y := Box.below y hv1) | (have y := trivial)); (try simp only [World.size_alloc] at y); try (have yz := Box.lt y; have y0 := Box.c y 0 _ rfl; have yf0 := Box.f y 0 _ rfl; have y1 := Box.c y 1 _ rfl; have yf1 := Box.f y 1 _ rfl; have y2 := Box.c y 2 _ rfl; have yf2 := Box.f y 2 _ rfl; have y3 := Box.c y 3 _ rfl; have yf3 := Box.f y 3 _ rfl; have y4 := Box.c y 4 _ rfl; have yf4 := Box.f y 4 _ rfl; have y5 := Box.c y 5 _ rfl; have yf5 := Box.f y 5 _ rfl)))
            all_goals
              go_wp2_with fail
              go_meet
              refine ⟨_, rfl, rfl, ?_, ?_, ?_, ?_⟩
              all_goals first
                | (first | (dsimp only; omega) | omega | (simp; omega))
                | ((repeat (first | (with_reducible apply put6) | (with_reducible refine other6 ?_ (by first | (dsimp only; omega) | omega) _ _ _ _ _ _) | (with_reducible assumption) | (with_reducible refine Box.drew ?_) | (with_reducible refine Box.drewN ?_ _) | ((with_reducible refine Box.new ?_); simp; done) | (with_reducible apply Box.set2) | (with_reducible refine Box.alloc ?_ _) | (with_reducible refine Box.other ?_ (by first | (dsimp only; omega) | omega) _))); done)
                | (go_grown; done)
        case rest =>
          as_aux_lemma =>
            obtain ⟨b51, rfl, rfl, x_c51, lo_c51, x_b51, hB51⟩ := hcut
            obtain ⟨w51, rfl⟩ : ∃ u : World, u = wc := ⟨_, rfl⟩
            have o_c_b := Nat.lt_of_lt_of_le z_b50 lo_c51
            clear hB50 hs50 c_t50 c_co50 c_ad50 x_b50 z_b50 c_b50_0 c_b50_1 c_b50_2 c_b50_3 c_b50_4 c_b50_5 f_b50_0 f_b50_1 f_b50_2 f_b50_3 f_b50_4 f_b50_5
            have c_t51 := cell_below hB51 T0
            have c_co51 := cell_below hB51 U0
            have c_ad51 := cell_below hB51 D0
            have hs51 : w2.heap.size ≤ w51.heap.size := hB51.size
            have z_b51 := x_b51.lt
            have c_b51_0 := x_b51.c 0 _ rfl; have f_b51_0 := x_b51.f 0 _ rfl
            have c_b51_1 := x_b51.c 1 _ rfl; have f_b51_1 := x_b51.f 1 _ rfl
            have c_b51_2 := x_b51.c 2 _ rfl; have f_b51_2 := x_b51.f 2 _ rfl
            have c_b51_3 := x_b51.c 3 _ rfl; have f_b51_3 := x_b51.f 3 _ rfl
            have c_b51_4 := x_b51.c 4 _ rfl; have f_b51_4 := x_b51.f 4 _ rfl
            have c_b51_5 := x_b51.c 5 _ rfl; have f_b51_5 := x_b51.f 5 _ rfl
            have z_c51 := x_c51.lt
            have c_c51_0 := x_c51.c 0 _ rfl; have f_c51_0 := x_c51.f 0 _ rfl
            have c_c51_1 := x_c51.c 1 _ rfl; have f_c51_1 := x_c51.f 1 _ rfl
            have c_c51_2 := x_c51.c 2 _ rfl; have f_c51_2 := x_c51.f 2 _ rfl
            have c_c51_3 := x_c51.c 3 _ rfl; have f_c51_3 := x_c51.f 3 _ rfl
            have c_c51_4 := x_c51.c 4 _ rfl; have f_c51_4 := x_c51.f 4 _ rfl
            have c_c51_5 := x_c51.c 5 _ rfl; have f_c51_5 := x_c51.f 5 _ rfl
            go_upto_region 14 with fail
            have x_b62 := put6 x_b51 (.int .i64 bu) (.int .i64 ra) (.int .i64 pe) (.int .i64 L) (.int .i64 Q) (.int .u64 T)
            have hB62 := below6 hB51 (.int .i64 bu) (.int .i64 ra) (.int .i64 pe) (.int .i64 L) (.int .i64 Q) (.int .u64 T)
            obtain ⟨w62, h9⟩ : ∃ W, ((((((w51.setCell ⟨w2.heap.size, 0, none⟩ (.int .i64 bu)).setCell ⟨w2.heap.size, 1, none⟩ (.int .i64 ra)).setCell ⟨w2.heap.size, 2, none⟩ (.int .i64 pe)).setCell ⟨w2.heap.size, 3, none⟩ (.int .i64 L)).setCell ⟨w2.heap.size, 4, none⟩ (.int .i64 Q)).setCell ⟨w2.heap.size, 5, none⟩ (.int .u64 T)) = W := ⟨_, rfl⟩
            rw [h9] at x_b62 hB62 ⊢
            have hs62 := hB62.size
            clear hB51 hs51 h9 x_b51 z_b51 c_b51_0 c_b51_1 c_b51_2 c_b51_3 c_b51_4 c_b51_5 f_b51_0 f_b51_1 f_b51_2 f_b51_3 f_b51_4 f_b51_5 x_c51 z_c51 c_c51_0 c_c51_1 c_c51_2 c_c51_3 c_c51_4 c_c51_5 f_c51_0 f_c51_1 f_c51_2 f_c51_3 f_c51_4 f_c51_5
            have z_b62 := x_b62.lt
            have c_b62_0 := x_b62.c 0 _ rfl; have f_b62_0 := x_b62.f 0 _ rfl
            have c_b62_1 := x_b62.c 1 _ rfl; have f_b62_1 := x_b62.f 1 _ rfl
            have c_b62_2 := x_b62.c 2 _ rfl; have f_b62_2 := x_b62.f 2 _ rfl
            have c_b62_3 := x_b62.c 3 _ rfl; have f_b62_3 := x_b62.f 3 _ rfl
            have c_b62_4 := x_b62.c 4 _ rfl; have f_b62_4 := x_b62.f 4 _ rfl
            have c_b62_5 := x_b62.c 5 _ rfl; have f_b62_5 := x_b62.f 5 _ rfl
            have c_t62 := cell_below hB62 T0
            have c_co62 := cell_below hB62 U0
            have c_ad62 := cell_below hB62 D0
            go_wp2_with fail
            go_roundw
            case rel => exact ⟨k + 1, bu, ra, pe, L, Q, T, by go_num, by omega, HK2, x_b62, hB62⟩
            case measure => simp [intOf]; omega

theorem alone4_any {bs : List Bk} {ts cs : List Int} {at1 at2 : Option Addr} {c1 c2 : Nat} {p : Int} {v : Value} {w : World} (h1 : IsB w v bs) (hu : ∀ b ∈ bs, isU b.a) (hi : Ints w .u64 at1 c1 ts) (ht : ∀ k, k < ts.length → isU (nth ts k)) (hj : Ints w .i64 at2 c2 cs) :
    Calls Try.prog 10 #[v, .slice at1 ts.length c1, .slice at2 cs.length c2, .int .i64 p] w fun e w' => e = .returned (.bool true) ∧ Below w.heap.size w w' := by
  have hn : Hid (ts.length = ts.length) := Lib.hid rfl
  have hm : Hid (cs.length = cs.length) := Lib.hid rfl
  by_cases h : rowE bs = 0
  · rcases Nat.lt_or_ge 30 ts.length with q | q
    · exact alone4_long h q hn hm h1 hi hj
    · cases hx : cosB ts cs with
      | false => exact alone4_costs h q (Lib.hid hx) hn hm h1 hi hj
      | true =>
        rcases Int.lt_or_le p 0 with z | z
        · exact alone4_neg h q (Lib.hid hx) z hn hm h1 hi hj
        · rcases Int.lt_or_le p (bs.length : Int) with y | y
          · obtain ⟨j, rfl⟩ := Int.eq_ofNat_of_zero_le z
            exact alone4_main (Row.of h hu) ht q (Lib.hid hx) j (by omega) hn hm h1 hi hj
          · exact alone4_far h q (Lib.hid hx) z y hn hm h1 hi hj
  · exact alone4_bad h hn hm h1 hi hj

end Go.Proofs.Ytmpcpflpcfanjaa
