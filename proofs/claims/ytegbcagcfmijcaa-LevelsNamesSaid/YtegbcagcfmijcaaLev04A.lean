/-
  Package levels, walked: closures, checks, what is made of each bucket.
-/
import Derived.Test.YtegbcagcfmijcaaRow04
namespace Go.Proofs.Ytegbcagcfmijcaa
open Go.RowKit

set_option maxRecDepth 100000 in
set_option maxHeartbeats 1600000 in
theorem fillc {bu ra pe le pt a t L P T : Int} (hb : Hid (Buc bu ra pe le pt a)) (ht : isU t) (h1 : Hid (filL bu ra pe le pt a t = L)) (h2 : Hid (filP bu ra pe le pt a t = P)) (h3 : Hid (filA a t = T)) {bt : Nat} (w : World) (hc0 : w.cell? ⟨bt, 0, none⟩ = some (.int .u64 t)) :
    Calls Try.prog 23 #[.agg #[.int .i64 bu, .int .i64 ra, .int .i64 pe, .int .i64 le, .int .i64 pt, .int .u64 a], .pointer (some ⟨bt, 0, none⟩)] w fun e w' => e = .returned (.tuple #[.agg #[.int .i64 bu, .int .i64 ra, .int .i64 pe, .int .i64 L, .int .i64 P, .int .u64 T], .int .i64 0]) ∧ Below w.heap.size w w' := by
  have hz0 := lt_of_cell hc0
  go_enter Try.func23, Try.ntmps23
  have c_t0 := hc0
  go_wp2_with fail
  refine (refill_ok hb.out ht h1 h2 h3 _).mono ?_
  rintro e w1 ⟨rfl, hb⟩
  have hB1 : Below w.heap.size w w1 := below_thru (by go_grown) hb
  have hs1 : w.heap.size ≤ w1.heap.size := hB1.size
  have x_x1 : Box w1 (w.heap.size) [.int .i64 bu, .int .i64 ra, .int .i64 pe, .int .i64 le, .int .i64 pt, .int .u64 a] := (by refine Box.below ?_ hb; repeat (first | (with_reducible assumption) | (with_reducible refine Box.drew ?_) | (with_reducible refine Box.drewN ?_ _) | ((with_reducible refine Box.new ?_); simp; done) | (with_reducible apply Box.set2) | (with_reducible refine Box.alloc ?_ _) | (with_reducible refine Box.other ?_ (by first | (dsimp only; omega) | omega) _)))
  have z_x1 := x_x1.lt
  have c_x1_0 := x_x1.c 0 _ rfl
  have f_x1_0 := x_x1.f 0 _ rfl
  have c_x1_1 := x_x1.c 1 _ rfl
  have f_x1_1 := x_x1.f 1 _ rfl
  have c_x1_2 := x_x1.c 2 _ rfl
  have f_x1_2 := x_x1.f 2 _ rfl
  have c_x1_3 := x_x1.c 3 _ rfl
  have f_x1_3 := x_x1.f 3 _ rfl
  have c_x1_4 := x_x1.c 4 _ rfl
  have f_x1_4 := x_x1.f 4 _ rfl
  have c_x1_5 := x_x1.c 5 _ rfl
  have f_x1_5 := x_x1.f 5 _ rfl
  have x_z1 : Box w1 (w.heap.size + 1) [.int .i64 0, .int .i64 0, .int .i64 0, .int .i64 0, .int .i64 0, .int .u64 0] := (by refine Box.below ?_ hb; repeat (first | (with_reducible assumption) | (with_reducible refine Box.drew ?_) | (with_reducible refine Box.drewN ?_ _) | ((with_reducible refine Box.new ?_); simp; done) | (with_reducible apply Box.set2) | (with_reducible refine Box.alloc ?_ _) | (with_reducible refine Box.other ?_ (by first | (dsimp only; omega) | omega) _)))
  have z_z1 := x_z1.lt
  have c_z1_0 := x_z1.c 0 _ rfl
  have f_z1_0 := x_z1.f 0 _ rfl
  have c_z1_1 := x_z1.c 1 _ rfl
  have f_z1_1 := x_z1.f 1 _ rfl
  have c_z1_2 := x_z1.c 2 _ rfl
  have f_z1_2 := x_z1.f 2 _ rfl
  have c_z1_3 := x_z1.c 3 _ rfl
  have f_z1_3 := x_z1.f 3 _ rfl
  have c_z1_4 := x_z1.c 4 _ rfl
  have f_z1_4 := x_z1.f 4 _ rfl
  have c_z1_5 := x_z1.c 5 _ rfl
  have f_z1_5 := x_z1.f 5 _ rfl
  have c_t1 := cell_below hB1 hc0
  clear hb
  go_wp2_with fail
  clear x_x1 z_x1 c_x1_0 c_x1_1 c_x1_2 c_x1_3 c_x1_4 c_x1_5 f_x1_0 f_x1_1 f_x1_2 f_x1_3 f_x1_4 f_x1_5
  refine bodyPost_ret (v := .tuple #[.agg #[.int .i64 bu, .int .i64 ra, .int .i64 pe, .int .i64 L, .int .i64 P, .int .u64 T], .int .i64 0]) (by simp [results, Try.results23, go_sem, c_z1_0, c_z1_1, c_z1_2, c_z1_3, c_z1_4, c_z1_5]) rfl ⟨rfl, ?_⟩
  go_grown

set_option maxRecDepth 100000 in
set_option maxHeartbeats 1600000 in
theorem chgc {bu ra pe le pt a c m : Int} (hk : Hid (bucE bu ra pe le pt = 0)) (hc : 0 ≤ c) (hl : c ≤ le) (hm : le ≤ 1000000000) (he : Hid (le - c = m)) {bt : Nat} (w : World) (hc0 : w.cell? ⟨bt, 0, none⟩ = some (.int .i64 c)) :
    Calls Try.prog 36 #[.agg #[.int .i64 bu, .int .i64 ra, .int .i64 pe, .int .i64 le, .int .i64 pt, .int .u64 a], .pointer (some ⟨bt, 0, none⟩)] w fun e w' => e = .returned (.tuple #[.agg #[.int .i64 bu, .int .i64 ra, .int .i64 pe, .int .i64 m, .int .i64 pt, .int .u64 a], .int .i64 0]) ∧ Below w.heap.size w w' := by
  have hz0 := lt_of_cell hc0
  go_enter Try.func36, Try.ntmps36
  have c_t0 := hc0
  go_wp2_with fail
  refine (charge_is hk hc hl hm he _).mono ?_
  rintro e w1 ⟨rfl, hb⟩
  have hB1 : Below w.heap.size w w1 := below_thru (by go_grown) hb
  have hs1 : w.heap.size ≤ w1.heap.size := hB1.size
  have x_x1 : Box w1 (w.heap.size) [.int .i64 bu, .int .i64 ra, .int .i64 pe, .int .i64 le, .int .i64 pt, .int .u64 a] := (by refine Box.below ?_ hb; repeat (first | (with_reducible assumption) | (with_reducible refine Box.drew ?_) | (with_reducible refine Box.drewN ?_ _) | ((with_reducible refine Box.new ?_); simp; done) | (with_reducible apply Box.set2) | (with_reducible refine Box.alloc ?_ _) | (with_reducible refine Box.other ?_ (by first | (dsimp only; omega) | omega) _)))
  have z_x1 := x_x1.lt
  have c_x1_0 := x_x1.c 0 _ rfl
  have f_x1_0 := x_x1.f 0 _ rfl
  have c_x1_1 := x_x1.c 1 _ rfl
  have f_x1_1 := x_x1.f 1 _ rfl
  have c_x1_2 := x_x1.c 2 _ rfl
  have f_x1_2 := x_x1.f 2 _ rfl
  have c_x1_3 := x_x1.c 3 _ rfl
  have f_x1_3 := x_x1.f 3 _ rfl
  have c_x1_4 := x_x1.c 4 _ rfl
  have f_x1_4 := x_x1.f 4 _ rfl
  have c_x1_5 := x_x1.c 5 _ rfl
  have f_x1_5 := x_x1.f 5 _ rfl
  have x_z1 : Box w1 (w.heap.size + 1) [.int .i64 0, .int .i64 0, .int .i64 0, .int .i64 0, .int .i64 0, .int .u64 0] := (by refine Box.below ?_ hb; repeat (first | (with_reducible assumption) | (with_reducible refine Box.drew ?_) | (with_reducible refine Box.drewN ?_ _) | ((with_reducible refine Box.new ?_); simp; done) | (with_reducible apply Box.set2) | (with_reducible refine Box.alloc ?_ _) | (with_reducible refine Box.other ?_ (by first | (dsimp only; omega) | omega) _)))
  have z_z1 := x_z1.lt
  have c_z1_0 := x_z1.c 0 _ rfl
  have f_z1_0 := x_z1.f 0 _ rfl
  have c_z1_1 := x_z1.c 1 _ rfl
  have f_z1_1 := x_z1.f 1 _ rfl
  have c_z1_2 := x_z1.c 2 _ rfl
  have f_z1_2 := x_z1.f 2 _ rfl
  have c_z1_3 := x_z1.c 3 _ rfl
  have f_z1_3 := x_z1.f 3 _ rfl
  have c_z1_4 := x_z1.c 4 _ rfl
  have f_z1_4 := x_z1.f 4 _ rfl
  have c_z1_5 := x_z1.c 5 _ rfl
  have f_z1_5 := x_z1.f 5 _ rfl
  have c_t1 := cell_below hB1 hc0
  clear hb
  go_wp2_with fail
  clear x_x1 z_x1 c_x1_0 c_x1_1 c_x1_2 c_x1_3 c_x1_4 c_x1_5 f_x1_0 f_x1_1 f_x1_2 f_x1_3 f_x1_4 f_x1_5
  refine bodyPost_ret (v := .tuple #[.agg #[.int .i64 bu, .int .i64 ra, .int .i64 pe, .int .i64 m, .int .i64 pt, .int .u64 a], .int .i64 0]) (by simp [results, Try.results36, go_sem, c_z1_0, c_z1_1, c_z1_2, c_z1_3, c_z1_4, c_z1_5]) rfl ⟨rfl, ?_⟩
  go_grown

set_option maxRecDepth 100000 in
set_option maxHeartbeats 1600000 in
theorem holdc {bu ra pe le pt a c : Int} {bt : Nat} (w : World) (hc0 : w.cell? ⟨bt, 0, none⟩ = some (.int .i64 c)) :
    Calls Try.prog 27 #[.agg #[.int .i64 bu, .int .i64 ra, .int .i64 pe, .int .i64 le, .int .i64 pt, .int .u64 a], .pointer (some ⟨bt, 0, none⟩)] w fun e w' => e = .returned (.bool (decide (le < c))) ∧ Below w.heap.size w w' := by
  have hz0 := lt_of_cell hc0
  go_enter Try.func27, Try.ntmps27
  go_wp2_with fail
  go_returns
  exact ⟨rfl, by go_grown⟩

set_option maxRecDepth 100000 in
set_option maxHeartbeats 1600000 in
theorem checkr_many {bs : List Bk} {at0 : Option Addr} {cap : Nat} (w : World) (hb : Bks w at0 cap bs) (hl : 8 < bs.length) :
    Calls Try.prog 10 #[.slice at0 bs.length cap] w fun e w' => e = .returned (.int .i64 4) ∧ Below w.heap.size w w' := by
  have i1 := hb.room
  have i2 := hb.most
  have d1 : decide ((8 : Int) < (bs.length : Int)) = true := decide_eq_true (by omega)
  clear hb
  go_enter Try.func10, Try.ntmps10
  go_wp2_with fail
  go_returns
  exact ⟨rfl, Below.refl _ _⟩

set_option maxRecDepth 100000 in
set_option maxHeartbeats 3200000 in
theorem checkr_few {bs : List Bk} {n : Int} {at0 : Option Addr} {cap : Nat} (w : World) (hb : Bks w at0 cap bs) (hl : bs.length ≤ 8) (h : Hid (rowE bs = n)) :
    Calls Try.prog 10 #[.slice at0 bs.length cap] w fun e w' => e = .returned (.int .i64 n) ∧ Below w.heap.size w w' := by
  have i1 := hb.room
  have i2 := hb.most
  have d1 : decide ((8 : Int) < (bs.length : Int)) = false := decide_eq_false (by omega)
  have HB := Lib.hid hb
  clear hb
  go_enter Try.func10, Try.ntmps10
  go_wp2_with fail
  go_loopw [11] (fun s11 wr => ∃ k : Nat, s11 = .int .i64 k ∧ k ≤ bs.length ∧ Hid (∀ i, i < k → (bk bs i).err = 0) ∧ Below w.heap.size w wr) (fun s11 _ => bs.length - (intOf s11).toNat)
  case atStart => exact ⟨0, rfl, by omega, Lib.hid (fun i hi => by omega), Below.refl _ _⟩
  case round =>
    obtain ⟨k, rfl, hk, HE, hB⟩ := hrel
    have hs := hB.size
    by_cases hlt : k < bs.length
    case neg =>
      have HN := Lib.hid (show (0 : Int) = n by rw [← h.out]; exact (rowE_ok hl fun i hi => HE.out i (by omega)).symm)
      go_wp2_with fail
      go_returns
      exact ⟨ret_i HN.out, hB⟩
    case pos =>
      obtain ⟨b, off, bu, ra, pe, le, pt, a, rfl, ebk, C0, C1, C2, C3, C4, C5⟩ := HB.out.at hlt
      have zb := lt_of_cell C0
      have c0 := cell_below hB C0
      have c1 := cell_below hB C1
      have c2 := cell_below hB C2
      have c3 := cell_below hB C3
      have c4 := cell_below hB C4
      have c5 := cell_below hB C5
      rcases bucE_two bu ra pe le pt with q | q
      · have HQ := Lib.hid q
        have HE2 := Lib.hid (show ∀ i, i < k + 1 → (bk bs i).err = 0 from fun i hi => by
          rcases Nat.lt_or_ge i k with z | z
          · exact HE.out i z
          · obtain rfl : i = k := by omega
            rw [ebk]
            exact q)
        clear q ebk
        go_wp2_with fail
        refine (check_is HQ _).mono ?_
        rintro e w1 ⟨rfl, hb⟩
        have hB1 : Below w.heap.size w w1 := below_thru (by go_grown) hb
        clear hb
        go_wp2_with fail
        go_roundw
        case rel => exact ⟨k + 1, by go_num, by omega, HE2, hB1⟩
        case measure => simp [intOf]; omega
      · have HQ := Lib.hid q
        have HN := Lib.hid (show (8 : Int) = n by rw [← h.out]; exact (rowE_bad hl hlt (by rw [ebk]; show bucE bu ra pe le pt ≠ 0; omega)).symm)
        clear q ebk
        go_wp2_with fail
        refine (check_is HQ _).mono ?_
        rintro e w1 ⟨rfl, hb⟩
        have hB1 : Below w.heap.size w w1 := below_thru (by go_grown) hb
        clear hb
        go_wp2_with fail
        go_returns
        exact ⟨ret_i HN.out, hB1⟩
theorem checkr_is {bs : List Bk} {n : Int} {v : Value} {w : World} (h : Hid (rowE bs = n)) (h1 : IsB w v bs) :
    Calls Try.prog 10 #[v] w fun e w' => e = .returned (.int .i64 n) ∧ Below w.heap.size w w' := by
  obtain ⟨at0, cap, rfl, hb⟩ := h1
  rcases Nat.lt_or_ge 8 bs.length with q | q
  · rw [← h.out, rowE_many q]
    exact checkr_many w hb q
  · exact checkr_few w hb q h

set_option maxRecDepth 100000 in
set_option maxHeartbeats 3200000 in
theorem each_fil {bs : List Bk} {v : Value} {w : World} {bt : Nat} {t : Int} (ht : isU t) (hr : Row bs) (hc0 : w.cell? ⟨bt, 0, none⟩ = some (.int .u64 t)) (h1 : IsB w v bs) :
    Calls Try.prog 22 #[v, .func (.func 23) #[] #[.pointer (some ⟨bt, 0, none⟩)]] w (GivesR (bs.map (Bk.fil t)) w) := by
  obtain ⟨at0, cap, rfl, hb⟩ := h1
  have i1 := hb.room
  have i2 := hb.most
  have i3 := hr.len
  have hz0 := lt_of_cell hc0
  have HB := Lib.hid hb
  have HR := Lib.hid hr
  clear hb hr
  obtain ⟨ti, hin, hz0, hz1, hz2⟩ := info_parts info_bucket
  go_enter Try.func22, Try.ntmps22
  go_wp2_with fail
  go_loopw [5, 12] (fun s5 s12 wr => ∃ k : Nat, s12 = .int .i64 k ∧ k ≤ bs.length ∧ wr.ownsRow w.heap.size 27 6 s5 k (flat ((bs.take k).map (Bk.fil t))) ∧ Below w.heap.size w wr) (fun _ s12 _ => bs.length - (intOf s12).toNat)
  case atStart => exact ⟨0, rfl, by omega, ownsB_none, Below.refl _ _⟩
  case round =>
    obtain ⟨k, rfl, hk, hown, hB⟩ := hrel
    have hs := hB.size
    by_cases hlt : k < bs.length
    case neg =>
      have hke : k = bs.length := by omega
      have HO : Hid (OwnB w.heap.size wr u5 (bs.map (Bk.fil t))) := Lib.hid (by
        unfold OwnB
        rw [hke, List.take_length] at hown
        rw [List.length_map]
        exact hown)
      clear hown hke
      go_wp2_with fail
      go_returns
      exact ⟨_, rfl, HO.out, hB⟩
    case pos =>
      obtain ⟨b, off, bu, ra, pe, le, pt, a, rfl, ebk, C0, C1, C2, C3, C4, C5⟩ := HB.out.at hlt
      have zb := lt_of_cell C0
      have hbuc : Buc bu ra pe le pt a := by have := HR.out.at hlt; rw [ebk] at this; exact this
      obtain ⟨L, e1⟩ : ∃ x, filL bu ra pe le pt a t = x := ⟨_, rfl⟩
      obtain ⟨P, e2⟩ : ∃ x, filP bu ra pe le pt a t = x := ⟨_, rfl⟩
      obtain ⟨T, e3⟩ : ∃ x, filA a t = x := ⟨_, rfl⟩
      have HS : Hid (flat ((bs.take (k + 1)).map (Bk.fil t)) = flat ((bs.take k).map (Bk.fil t)) ++ [.int .i64 bu, .int .i64 ra, .int .i64 pe, .int .i64 L, .int .i64 P, .int .u64 T]) := Lib.hid (by
        rw [take_succ_bk hlt, List.map_append, List.map_singleton, flat_snoc, ebk, ← e1, ← e2, ← e3]
        rfl)
      have E1 := Lib.hid e1
      have E2 := Lib.hid e2
      have E3 := Lib.hid e3
      have BU := Lib.hid hbuc
      clear e1 e2 e3 hbuc
      clear ebk
      have c0 := cell_below hB C0
      have c1 := cell_below hB C1
      have c2 := cell_below hB C2
      have c3 := cell_below hB C3
      have c4 := cell_below hB C4
      have c5 := cell_below hB C5
      have ct := cell_below hB hc0
      go_wp2_with fail
      refine (fillc BU ht E1 E2 E3 _ (cell_alloc ct)).mono ?_
      rintro e w1 ⟨rfl, hb⟩
      have hB1 : Below w.heap.size w w1 := below_thru (by go_grown) hb
      have hs1 : w.heap.size ≤ w1.heap.size := hB1.size
      have hown1 := own_below (hown.alloc _) hb
      clear hb hown c0 c1 c2 c3 c4 c5 ct hB hs
      go_upto_region 6 with fail
      have hB2 := hB1.alloc hs1 (.cells #[.int .i64 bu, .int .i64 ra, .int .i64 pe, .int .i64 L, .int .i64 P, .int .u64 T] 27)
      have hown2 := hown1.alloc (.cells #[.int .i64 bu, .int .i64 ra, .int .i64 pe, .int .i64 L, .int .i64 P, .int .u64 T] 27)
      have hx2 := Box.new (w := w1) (l := [.int .i64 bu, .int .i64 ra, .int .i64 pe, .int .i64 L, .int .i64 P, .int .u64 T]) (t := 27) rfl
      obtain ⟨w2, h9⟩ : ∃ W, w1.alloc (.cells #[.int .i64 bu, .int .i64 ra, .int .i64 pe, .int .i64 L, .int .i64 P, .int .u64 T] 27) = W := ⟨_, rfl⟩
      have hx2 : Box w2 w1.heap.size [.int .i64 bu, .int .i64 ra, .int .i64 pe, .int .i64 L, .int .i64 P, .int .u64 T] := by rw [← h9]; exact hx2
      rw [h9] at hB2 hown2 ⊢
      clear h9 hB1 hown1
      have hs2 := hB2.size
      have zx := hx2.lt
      have x0 := hx2.c 0 _ rfl
      have x1 := hx2.c 1 _ rfl
      have x2 := hx2.c 2 _ rfl
      have x3 := hx2.c 3 _ rfl
      have x4 := hx2.c 4 _ rfl
      have x5 := hx2.c 5 _ rfl
      go_wp2_with (at_builtin; refine wpList_append_own _ rfl _ _ 22 rfl w.heap.size 27 ti _ 6 48 Try.underlying22 hin hz0 hz1 hz2 rfl (by decide) _ _ _ rfl (hown2.alloc _) ⟨w2.heap.size, 0, none⟩ 1 1 [.int .i64 bu, .int .i64 ra, .int .i64 pe, .int .i64 L, .int .i64 P, .int .u64 T] rfl rfl (World.news_of_block (cs := #[.int .i64 bu, .int .i64 ra, .int .i64 pe, .int .i64 L, .int .i64 P, .int .u64 T]) (t := 27) (fr := (0, 0)) (heap_alloc_new w2 _)) (by simp [Value.oneCell']) (by unfold maxLen; omega) (by omega) (by simp; omega) ?_; intro v9 w9 hown9 hgrow _)
      have hB9 := (hB2.alloc hs2 (.cells #[.int .i64 bu, .int .i64 ra, .int .i64 pe, .int .i64 L, .int .i64 P, .int .u64 T] 27)).grown hgrow (by simp; omega) (own_blocks (hown2.alloc (.cells #[.int .i64 bu, .int .i64 ra, .int .i64 pe, .int .i64 L, .int .i64 P, .int .u64 T] 27)))
      rw [← HS.out] at hown9
      go_roundw
      case rel => exact ⟨k + 1, by go_num, by omega, hown9, hB9⟩
      case measure => simp [intOf]; omega

set_option maxRecDepth 100000 in
set_option maxHeartbeats 3200000 in
theorem each_chg {bs : List Bk} {v : Value} {w : World} {bt : Nat} {c : Int} (h0 : 0 ≤ c) (hh : Hid (holdB c bs = true)) (hr : Row bs) (hc0 : w.cell? ⟨bt, 0, none⟩ = some (.int .i64 c)) (h1 : IsB w v bs) :
    Calls Try.prog 22 #[v, .func (.func 36) #[] #[.pointer (some ⟨bt, 0, none⟩)]] w (GivesR (bs.map (Bk.chg c)) w) := by
  obtain ⟨at0, cap, rfl, hb⟩ := h1
  have i1 := hb.room
  have i2 := hb.most
  have i3 := hr.len
  have hz0 := lt_of_cell hc0
  have HB := Lib.hid hb
  have HR := Lib.hid hr
  clear hb hr
  obtain ⟨ti, hin, hz0, hz1, hz2⟩ := info_parts info_bucket
  go_enter Try.func22, Try.ntmps22
  go_wp2_with fail
  go_loopw [5, 12] (fun s5 s12 wr => ∃ k : Nat, s12 = .int .i64 k ∧ k ≤ bs.length ∧ wr.ownsRow w.heap.size 27 6 s5 k (flat ((bs.take k).map (Bk.chg c))) ∧ Below w.heap.size w wr) (fun _ s12 _ => bs.length - (intOf s12).toNat)
  case atStart => exact ⟨0, rfl, by omega, ownsB_none, Below.refl _ _⟩
  case round =>
    obtain ⟨k, rfl, hk, hown, hB⟩ := hrel
    have hs := hB.size
    by_cases hlt : k < bs.length
    case neg =>
      have hke : k = bs.length := by omega
      have HO : Hid (OwnB w.heap.size wr u5 (bs.map (Bk.chg c))) := Lib.hid (by
        unfold OwnB
        rw [hke, List.take_length] at hown
        rw [List.length_map]
        exact hown)
      clear hown hke
      go_wp2_with fail
      go_returns
      exact ⟨_, rfl, HO.out, hB⟩
    case pos =>
      obtain ⟨b, off, bu, ra, pe, le, pt, a, rfl, ebk, C0, C1, C2, C3, C4, C5⟩ := HB.out.at hlt
      have zb := lt_of_cell C0
      have hbuc : Buc bu ra pe le pt a := by have := HR.out.at hlt; rw [ebk] at this; exact this
      have hcl : c ≤ le := by have := holdB_yes hh.out _ (bk_mem hlt); rw [ebk] at this; exact this
      have hle : le ≤ 1000000000 := by have := hbuc.l1; have := hbuc.nums; omega
      obtain ⟨m, e1⟩ : ∃ x, le - c = x := ⟨_, rfl⟩
      have HS : Hid (flat ((bs.take (k + 1)).map (Bk.chg c)) = flat ((bs.take k).map (Bk.chg c)) ++ [.int .i64 bu, .int .i64 ra, .int .i64 pe, .int .i64 m, .int .i64 pt, .int .u64 a]) := Lib.hid (by
        rw [take_succ_bk hlt, List.map_append, List.map_singleton, flat_snoc, ebk, ← e1]
        rfl)
      have E1 := Lib.hid e1
      have K0 := Lib.hid hbuc.ok
      clear e1 hbuc
      clear ebk
      have c0 := cell_below hB C0
      have c1 := cell_below hB C1
      have c2 := cell_below hB C2
      have c3 := cell_below hB C3
      have c4 := cell_below hB C4
      have c5 := cell_below hB C5
      have ct := cell_below hB hc0
      go_wp2_with fail
      refine (chgc K0 h0 hcl hle E1 _ (cell_alloc ct)).mono ?_
      rintro e w1 ⟨rfl, hb⟩
      have hB1 : Below w.heap.size w w1 := below_thru (by go_grown) hb
      have hs1 : w.heap.size ≤ w1.heap.size := hB1.size
      have hown1 := own_below (hown.alloc _) hb
      clear hb hown c0 c1 c2 c3 c4 c5 ct hB hs
      go_upto_region 6 with fail
      have hB2 := hB1.alloc hs1 (.cells #[.int .i64 bu, .int .i64 ra, .int .i64 pe, .int .i64 m, .int .i64 pt, .int .u64 a] 27)
      have hown2 := hown1.alloc (.cells #[.int .i64 bu, .int .i64 ra, .int .i64 pe, .int .i64 m, .int .i64 pt, .int .u64 a] 27)
      have hx2 := Box.new (w := w1) (l := [.int .i64 bu, .int .i64 ra, .int .i64 pe, .int .i64 m, .int .i64 pt, .int .u64 a]) (t := 27) rfl
      obtain ⟨w2, h9⟩ : ∃ W, w1.alloc (.cells #[.int .i64 bu, .int .i64 ra, .int .i64 pe, .int .i64 m, .int .i64 pt, .int .u64 a] 27) = W := ⟨_, rfl⟩
      have hx2 : Box w2 w1.heap.size [.int .i64 bu, .int .i64 ra, .int .i64 pe, .int .i64 m, .int .i64 pt, .int .u64 a] := by rw [← h9]; exact hx2
      rw [h9] at hB2 hown2 ⊢
      clear h9 hB1 hown1
      have hs2 := hB2.size
      have zx := hx2.lt
      have x0 := hx2.c 0 _ rfl
      have x1 := hx2.c 1 _ rfl
      have x2 := hx2.c 2 _ rfl
      have x3 := hx2.c 3 _ rfl
      have x4 := hx2.c 4 _ rfl
      have x5 := hx2.c 5 _ rfl
      go_wp2_with (at_builtin; refine wpList_append_own _ rfl _ _ 22 rfl w.heap.size 27 ti _ 6 48 Try.underlying22 hin hz0 hz1 hz2 rfl (by decide) _ _ _ rfl (hown2.alloc _) ⟨w2.heap.size, 0, none⟩ 1 1 [.int .i64 bu, .int .i64 ra, .int .i64 pe, .int .i64 m, .int .i64 pt, .int .u64 a] rfl rfl (World.news_of_block (cs := #[.int .i64 bu, .int .i64 ra, .int .i64 pe, .int .i64 m, .int .i64 pt, .int .u64 a]) (t := 27) (fr := (0, 0)) (heap_alloc_new w2 _)) (by simp [Value.oneCell']) (by unfold maxLen; omega) (by omega) (by simp; omega) ?_; intro v9 w9 hown9 hgrow _)
      have hB9 := (hB2.alloc hs2 (.cells #[.int .i64 bu, .int .i64 ra, .int .i64 pe, .int .i64 m, .int .i64 pt, .int .u64 a] 27)).grown hgrow (by simp; omega) (own_blocks (hown2.alloc (.cells #[.int .i64 bu, .int .i64 ra, .int .i64 pe, .int .i64 m, .int .i64 pt, .int .u64 a] 27)))
      rw [← HS.out] at hown9
      go_roundw
      case rel => exact ⟨k + 1, by go_num, by omega, hown9, hB9⟩
      case measure => simp [intOf]; omega

end Go.Proofs.Ytegbcagcfmijcaa
