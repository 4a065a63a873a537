/-
  TopBuckets, walked: it returns true.
-/
import Derived.Test.YtmpcpflpcfanjaaTopD04
namespace Go.Proofs.Ytmpcpflpcfanjaa
open Go.RowKit

theorem full_take {A : Int} {ls : List Lm} {k : Nat} (h : k < ls.length) : (ls.take (k + 1)).map (fullB A) = (ls.take k).map (fullB A) ++ [fullB A (lm ls k)] := by
  rw [List.take_succ_eq_append_getElem h, List.map_append, lm_get h]
  rfl
theorem lm_full {A : Int} {ls : List Lm} {i : Nat} (h : i < ls.length) : bk (ls.map (fullB A)) i = fullB A (lm ls i) := by
  rw [bk_get (by simpa using h), List.getElem_map, lm_get h]
theorem full_row {A : Int} {ls : List Lm} (hA : isU A) (hl : ls.length ≤ 8) (h : ∀ i, i < ls.length → limE (lm ls i).bu (lm ls i).ra (lm ls i).pe = 0) : Row (ls.map (fullB A)) := by
  refine ⟨by simpa using hl, fun b hb => ?_⟩
  obtain ⟨l, hl, rfl⟩ := List.mem_map.1 hb
  obtain ⟨i, hi, rfl⟩ := List.getElem_of_mem hl
  have := h i hi
  rw [lm_get hi] at this
  exact Buc.full this hA
theorem isl_ints {w : World} {k : IntKind} {v : Value} {xs : List Int} (h : IsL w k v xs) : ∃ a c, v = .slice a xs.length c ∧ Ints w k a c xs := let ⟨a, c, e, hi, _⟩ := h; ⟨a, c, e, hi⟩
theorem fst_IsB {w : World} {a : Option Addr} {n c : Nat} {bs : List Bk} (h : IsB w (.slice a n c) bs) : Bks w a c bs := by
  obtain ⟨a', c', e, hb⟩ := h
  injection e with e1 e2 e3
  subst e1 e3
  exact hb

set_option maxRecDepth 100000 in
set_option maxHeartbeats 6400000 in
theorem top_many {ls : List Lm} {xs cs : List Int} {at0 at1 at2 : Option Addr} {nl n m c0 c1 c2 : Nat} {A : Int} {w : World} (h : 8 < nl) (hll : Hid (ls.length = nl)) (hn : Hid (xs.length = n)) (hm : Hid (cs.length = m)) (h0 : Lms w at0 c0 ls) (hi : Ints w .u64 at1 c1 xs) (hj : Ints w .i64 at2 c2 cs) :
    Calls Try.prog 11 #[.slice at0 nl c0, .int .u64 A, .slice at1 n c1, .slice at2 m c2] w fun e w' => e = .returned (.bool true) ∧ Below w.heap.size w w' := by
  have e0 : nl ≤ c0 := by have := h0.room; have := hll.out; omega
  have e1 := h0.most
  have i1 : n ≤ c1 := by have := hi.room; have := hn.out; omega
  have i2 := hi.most
  have j1 : m ≤ c2 := by have := hj.room; have := hm.out; omega
  have j2 := hj.most
  have d1 : decide ((8 : Int) < (nl : Int)) = true := decide_eq_true (by omega)
  clear h0 hi hj
  go_enter Try.func11, Try.ntmps11
  go_wp2_with fail
  go_returns
  exact ⟨rfl, Below.refl _ _⟩

set_option maxRecDepth 100000 in
set_option maxHeartbeats 6400000 in
theorem top_long {ls : List Lm} {xs cs : List Int} {at0 at1 at2 : Option Addr} {nl n m c0 c1 c2 : Nat} {A : Int} {w : World} (h : nl ≤ 8) (h' : 20 < n) (hll : Hid (ls.length = nl)) (hn : Hid (xs.length = n)) (hm : Hid (cs.length = m)) (h0 : Lms w at0 c0 ls) (hi : Ints w .u64 at1 c1 xs) (hj : Ints w .i64 at2 c2 cs) :
    Calls Try.prog 11 #[.slice at0 nl c0, .int .u64 A, .slice at1 n c1, .slice at2 m c2] w fun e w' => e = .returned (.bool true) ∧ Below w.heap.size w w' := by
  have e0 : nl ≤ c0 := by have := h0.room; have := hll.out; omega
  have e1 := h0.most
  have i1 : n ≤ c1 := by have := hi.room; have := hn.out; omega
  have i2 := hi.most
  have j1 : m ≤ c2 := by have := hj.room; have := hm.out; omega
  have j2 := hj.most
  have d1 : decide ((8 : Int) < (nl : Int)) = false := decide_eq_false (by omega)
  have d2 : decide ((20 : Int) < (n : Int)) = true := decide_eq_true (by omega)
  clear h0 hi hj
  go_enter Try.func11, Try.ntmps11
  go_wp2_with fail
  go_returns
  exact ⟨rfl, Below.refl _ _⟩

set_option maxRecDepth 100000 in
set_option maxHeartbeats 6400000 in
theorem top_costs {ls : List Lm} {xs cs : List Int} {at0 at1 at2 : Option Addr} {nl n m c0 c1 c2 : Nat} {A : Int} {w : World} (h : nl ≤ 8) (h' : n ≤ 20) (hx : Hid (cosB xs cs = false)) (hll : Hid (ls.length = nl)) (hn : Hid (xs.length = n)) (hm : Hid (cs.length = m)) (h0 : Lms w at0 c0 ls) (hi : Ints w .u64 at1 c1 xs) (hj : Ints w .i64 at2 c2 cs) :
    Calls Try.prog 11 #[.slice at0 nl c0, .int .u64 A, .slice at1 n c1, .slice at2 m c2] w fun e w' => e = .returned (.bool true) ∧ Below w.heap.size w w' := by
  have e0 : nl ≤ c0 := by have := h0.room; have := hll.out; omega
  have e1 := h0.most
  have i1 : n ≤ c1 := by have := hi.room; have := hn.out; omega
  have i2 := hi.most
  have j1 : m ≤ c2 := by have := hj.room; have := hm.out; omega
  have j2 := hj.most
  have d1 : decide ((8 : Int) < (nl : Int)) = false := decide_eq_false (by omega)
  have d2 : decide ((20 : Int) < (n : Int)) = false := decide_eq_false (by omega)
  have J0 := Lib.hid hj
  clear h0 hi hj
  go_enter Try.func11, Try.ntmps11
  go_wp2_with fail
  refine (rcosts_is _ hn hm hx J0.out).mono ?_
  rintro e _ ⟨rfl, rfl⟩
  go_wp2_with fail
  go_returns
  exact ⟨rfl, Below.refl _ _⟩

set_option maxRecDepth 100000 in
set_option maxHeartbeats 25600000 in
theorem top_main {ls : List Lm} {xs cs : List Int} {at0 at1 at2 : Option Addr} {nl n m c0 c1 c2 : Nat} {A : Int} {w : World} (h : nl ≤ 8) (h' : n ≤ 20) (hx : Hid (cosB xs cs = true)) (tA : isU A) (ht : ∀ k, k < xs.length → isU (nth xs k)) (htc : ∀ k, k < cs.length → nth cs k ≤ 9223372036854775807) (hnil0 : at1 = none → c1 = 0) (hll : Hid (ls.length = nl)) (hn : Hid (xs.length = n)) (hm : Hid (cs.length = m)) (h0 : Lms w at0 c0 ls) (hi : Ints w .u64 at1 c1 xs) (hj : Ints w .i64 at2 c2 cs) :
    Calls Try.prog 11 #[.slice at0 nl c0, .int .u64 A, .slice at1 n c1, .slice at2 m c2] w fun e w' => e = .returned (.bool true) ∧ Below w.heap.size w w' := by
  have e0 : nl ≤ c0 := by have := h0.room; have := hll.out; omega
  have e1 := h0.most
  have i1 : n ≤ c1 := by have := hi.room; have := hn.out; omega
  have i2 := hi.most
  have j1 : m ≤ c2 := by have := hj.room; have := hm.out; omega
  have j2 := hj.most
  have d1 : decide ((8 : Int) < (nl : Int)) = false := decide_eq_false (by omega)
  have d2 : decide ((20 : Int) < (n : Int)) = false := decide_eq_false (by omega)
  have he : Entries xs cs := ⟨by have := hn.out; omega, (cosB_yes hx.out).1, ht, (cosB_yes hx.out).2⟩
  have hmn : n = m := by have := he.same; have := hn.out; have := hm.out; omega
  subst hmn
  have HT := Lib.hid he
  have HCM := Lib.hid htc
  have hnil := Lib.hid hnil0
  have I0 := Lib.hid hi
  have J0 := Lib.hid hj
  have L0 := Lib.hid h0
  clear he htc h0 hi hj hnil0
  obtain ⟨ti, hin, hz0, hz1, hz2⟩ := info_parts info_bucket
  go_enter Try.func11, Try.ntmps11
  go_wp2_with fail
  refine (rcosts_is _ hn hm hx J0.out).mono ?_
  rintro e w0 ⟨rfl, rfl⟩
  go_wp2_with fail
  refine (atop_any _).mono ?_
  rintro e w1 ⟨rfl, hb⟩
  have hB1 : Below w0.heap.size w0 w1 := hb
  have hs1 := hB1.size
  clear hb
  go_wp2_with fail
  go_loopw [9, 10] (fun s9 s10 wr => ∃ k : Nat, s10 = .int .i64 k ∧ k ≤ nl ∧ Hid (∀ i, i < k → limE (lm ls i).bu (lm ls i).ra (lm ls i).pe = 0) ∧ wr.ownsRow w0.heap.size 26 6 s9 k (flat ((ls.take k).map (fullB A))) ∧ Below w0.heap.size w0 wr) (fun _ s10 _ => nl - (intOf s10).toNat)
  case atStart => exact ⟨0, rfl, by omega, Lib.hid (fun i hi => by omega), ownsB_none, hB1⟩
  case round =>
    obtain ⟨k, rfl, hk, HL, hown, hB⟩ := hrel
    clear hB1 hs1
    have hs := hB.size
    by_cases hlt : k < nl
    case pos =>
      have hkl : k < ls.length := by have := hll.out; omega
      obtain ⟨⟨lb, lr, lp⟩, elm⟩ : ∃ x, lm ls k = x := ⟨_, rfl⟩
      obtain ⟨b0, o0, rfl, T0, T1, T2⟩ := L0.out.at hkl elm
      have zb := lt_of_cell T0
      have c_0 := cell_below hB T0
      have c_1 := cell_below hB T1
      have c_2 := cell_below hB T2
      rcases limE_two lb lr lp with q | q
      · have HQ := Lib.hid q
        have HL2 := Lib.hid (show ∀ i, i < k + 1 → limE (lm ls i).bu (lm ls i).ra (lm ls i).pe = 0 from fun i hi => by
          rcases Nat.lt_or_ge i k with z | z
          · exact HL.out i z
          · obtain rfl : i = k := by omega
            rw [elm]
            exact q)
        have HS : Hid (flat ((ls.take (k + 1)).map (fullB A)) = flat ((ls.take k).map (fullB A)) ++ [.int .i64 lb, .int .i64 lr, .int .i64 lp, .int .i64 lb, .int .i64 0, .int .u64 A]) := Lib.hid (by rw [full_take hkl, flat_snoc, elm]; rfl)
        clear q elm HL
        go_wp2_with fail
        refine (full_ok HQ _).mono ?_
        rintro e w2 ⟨rfl, hb⟩
        have hB2 : Below w0.heap.size w0 w2 := below_thru (by go_grown) hb
        have hs2 := hB2.size
        have hown2 := own_below hown hb
        clear hb hown c_0 c_1 c_2 hB hs
        go_upto_region 10 with fail
        have hB3 := hB2.alloc hs2 (.cells #[.int .i64 lb, .int .i64 lr, .int .i64 lp, .int .i64 lb, .int .i64 0, .int .u64 A] 26)
        have hown3 := hown2.alloc (.cells #[.int .i64 lb, .int .i64 lr, .int .i64 lp, .int .i64 lb, .int .i64 0, .int .u64 A] 26)
        have hx3 : Box (w2.alloc (.cells #[.int .i64 lb, .int .i64 lr, .int .i64 lp, .int .i64 lb, .int .i64 0, .int .u64 A] 26)) w2.heap.size [.int .i64 lb, .int .i64 lr, .int .i64 lp, .int .i64 lb, .int .i64 0, .int .u64 A] := Box.new rfl
        obtain ⟨w3, h9⟩ : ∃ W, w2.alloc (.cells #[.int .i64 lb, .int .i64 lr, .int .i64 lp, .int .i64 lb, .int .i64 0, .int .u64 A] 26) = W := ⟨_, rfl⟩
        rw [h9] at hB3 hown3 hx3 ⊢
        clear h9 hB2 hown2 hs2
        have hs3 := hB3.size
        have zx := hx3.lt
        have x0 := hx3.c 0 _ rfl
        have x1 := hx3.c 1 _ rfl
        have x2 := hx3.c 2 _ rfl
        have x3 := hx3.c 3 _ rfl
        have x4 := hx3.c 4 _ rfl
        have x5 := hx3.c 5 _ rfl
        go_wp2_with (at_builtin; refine wpList_append_own _ rfl _ _ 39 rfl w0.heap.size 26 ti _ 6 48 Try.underlying39 hin hz0 hz1 hz2 rfl (by decide) _ _ _ rfl (hown3.alloc _) ⟨w3.heap.size, 0, none⟩ 1 1 [.int .i64 lb, .int .i64 lr, .int .i64 lp, .int .i64 lb, .int .i64 0, .int .u64 A] rfl rfl (World.news_of_block (cs := #[.int .i64 lb, .int .i64 lr, .int .i64 lp, .int .i64 lb, .int .i64 0, .int .u64 A]) (t := 26) (fr := (0, 0)) (heap_alloc_new w3 _)) (by simp [Value.oneCell']) (by unfold maxLen; omega) (by omega) (by simp; omega) ?_; intro v9 w9 hown9 hgrow _)
        have hB9 := (hB3.alloc hs3 (.cells #[.int .i64 lb, .int .i64 lr, .int .i64 lp, .int .i64 lb, .int .i64 0, .int .u64 A] 26)).grown hgrow (by simp; omega) (own_blocks (hown3.alloc (.cells #[.int .i64 lb, .int .i64 lr, .int .i64 lp, .int .i64 lb, .int .i64 0, .int .u64 A] 26)))
        rw [← HS.out] at hown9
        go_roundw
        case rel => exact ⟨k + 1, by go_num, by omega, HL2, hown9, hB9⟩
        case measure => simp [intOf]; omega
      · have HQ := Lib.hid q
        clear q elm
        go_wp2_with fail
        refine (full_no HQ _).mono ?_
        rintro e w2 ⟨rfl, hb⟩
        have hB2 : Below w0.heap.size w0 w2 := below_thru (by go_grown) hb
        have hs2 := hB2.size
        clear hb hown c_0 c_1 c_2 hB hs
        go_wp2_with fail
        go_returns
        exact ⟨rfl, by go_grown⟩
    case neg =>
      have hke : k = nl := by omega
      obtain ⟨rs, ers⟩ : ∃ y, ls.map (fullB A) = y := ⟨_, rfl⟩
      have hrow : Row rs := by
        rw [← ers]
        exact full_row tA (by have := hll.out; omega) (fun i hi => HL.out i (by have := hll.out; omega))
      have hA : ∀ b ∈ rs, b.a = A := fun b hb => by
        rw [← ers] at hb
        obtain ⟨l, _, rfl⟩ := List.mem_map.1 hb
        rfl
      have hlen : rs.length = nl := by rw [← ers, List.length_map]; exact hll.out
      have HO : Hid (OwnB w0.heap.size wr u9 rs) := Lib.hid (by
        unfold OwnB
        rw [hke, List.take_of_length_le (by have := hll.out; omega), ers] at hown
        rw [hlen]
        exact hown)
      have hfull : ∀ i, i < nl → bk rs i = fullB A (lm ls i) := fun i hi => by rw [← ers]; exact lm_full (by have := hll.out; omega)
      have hlim : ∀ i, i < nl → limE (lm ls i).bu (lm ls i).ra (lm ls i).pe = 0 := fun i hi => HL.out i (by omega)
      obtain ⟨ys, eys⟩ : ∃ y, cl A xs xs.length = y := ⟨_, rfl⟩
      have hcl := run_clamped hrow hA HT.out n (by have := hn.out; omega)
      rw [eys] at hcl
      have hce := clamped_entries (A := A) tA HT.out
      rw [eys] at hce
      obtain ⟨zs, ezs⟩ : ∃ y, runR rs xs cs n = y := ⟨_, rfl⟩
      obtain ⟨aa, eaa⟩ : ∃ y, runA rs xs cs n = y := ⟨_, rfl⟩
      have hbd := fun i (hi : i < nl) => runR_bound hrow hA HT.out (i := i) (by omega) (by rw [hfull i hi]; exact ⟨rfl, rfl⟩) n (by have := hn.out; omega)
      have hbs := fun i (hi : i < nl) (k : Nat) (hk : k ≤ n) => let ⟨_, _, _, p, q, _⟩ := runR_bound hrow hA HT.out (i := i) (by omega) (by rw [hfull i hi]; exact ⟨rfl, rfl⟩) k (by have := hn.out; omega); (⟨p, q⟩ : 0 ≤ sumA rs xs cs k ∧ sumA rs xs cs k ≤ k * 1000000000)
      have hzr : Row zs := by rw [← ezs]; exact runR_row hrow HT.out n (by have := hn.out; omega)
      obtain ⟨G, eG⟩ : ∃ y, gr A xs = y := ⟨_, rfl⟩
      have hza : ∀ b ∈ zs, b.a = G := fun b hb => by rw [← ezs] at hb; have := hcl.2.2 b hb; rw [List.take_of_length_le (by have := hn.out; omega), eG] at this; exact this
      have tG : isU G := by have := gr_tick tA HT.out.tick xs.length (Nat.le_refl _); rwa [List.take_length, eG] at this
      have hAG : A ≤ G := by rw [← eG]; exact gr_le A xs
      rw [ezs, List.take_of_length_le (by have := hn.out; omega), eG] at hbd
      have HBD := Lib.hid hbd
      have HBS := Lib.hid hbs
      have HFU := Lib.hid hfull
      have HLI := Lib.hid hlim
      have HZR := Lib.hid hzr
      have HZA := Lib.hid hza
      have HRW := Lib.hid hrow
      have HTC := Lib.hid hce
      have HNY := Lib.hid (show ys.length = n by rw [← eys, cl_len]; exact hn.out)
      have EZ := Lib.hid ezs
      have EA := Lib.hid eaa
      have EZ2 := Lib.hid (show runR rs ys cs n = zs by rw [← hcl.1]; exact ezs)
      have EA2 := Lib.hid (show runA rs ys cs n = aa by rw [← hcl.2.1]; exact eaa)
      have HLR := Lib.hid hlen
      have HLZ := Lib.hid (show zs.length = nl by rw [← ezs, runR_len, hlen])
      have HLA := Lib.hid (show aa.length = n by rw [← eaa]; exact runA_len rs xs cs n)
      have EC := Lib.hid (show clV A xs = ys by unfold clV; rw [if_neg (by have := hn.out; omega)]; exact eys)
      have EE := Lib.hid (show clE xs = 0 by unfold clE; rw [if_neg (by have := hn.out; omega)])
      have EG := Lib.hid eG
      have hisl : ∀ W, Ints W .u64 at1 c1 xs → IsL W .u64 (.slice at1 n c1) xs := fun W h => ⟨at1, c1, by rw [hn.out], h, hnil.out⟩
      have HIS := Lib.hid hisl
      obtain ⟨wo, rfl⟩ : ∃ u : World, u = wr := ⟨_, rfl⟩
      have I1 := Lib.hid (I0.out.below hB)
      have J1 := Lib.hid (J0.out.below hB)
      have L1 := Lib.hid (L0.out.below hB)
      clear hke ers hrow hA hlen hfull hlim eys hcl hce ezs eaa hbd hbs hzr eG hza hisl hown HL L0 I0 J0
      go_wp2_with fail
      refine (clamps_is EC EE (HIS.out _ I1.out)).mono ?_
      rintro e w2 ⟨v2, rfl, hl2, hb⟩
      have hB2 : Below w0.heap.size w0 w2 := hB.trans (hb.mono hs)
      have hs2 := hB2.size
      obtain ⟨a2, k2, rfl, Y2⟩ := isl_ints hl2
      rw [HNY.out]
      have Y2 := Lib.hid Y2
      have O2 := Lib.hid (HO.out.below hb)
      have I2 := Lib.hid (I1.out.below hb)
      have J2 := Lib.hid (J1.out.below hb)
      have L2 := Lib.hid (L1.out.below hb)
      clear hb hl2 HO I1 J1 L1 hB hs
      go_wp2_with fail
      refine (lrun_is HRW.out HT.out hn EZ EA O2.out.is I2.out J2.out).mono ?_
      rintro e w3 ⟨v3, u3, rfl, ho3, hu3, hb⟩
      have hB3 : Below w0.heap.size w0 w3 := hB2.trans (hb.mono hs2)
      have hs3 := hB3.size
      have O3 := Lib.hid (O2.out.below hb)
      have I3 := Lib.hid (I2.out.below hb)
      have J3 := Lib.hid (J2.out.below hb)
      have L3 := Lib.hid (L2.out.below hb)
      have Y3 := Lib.hid (Y2.out.below hb)
      have P3 := Lib.hid ho3.is
      have Q3 := Lib.hid (IsV.own hu3 (bools_len _).symm)
      clear hb ho3 hu3 O2 I2 J2 L2 Y2 hB2 hs2
      go_wp2_with fail
      refine (lrun_is HRW.out HTC.out HNY EZ2 EA2 O3.out.is Y3.out J3.out).mono ?_
      rintro e w4 ⟨v4, u4, rfl, ho4, hu4, hb⟩
      have hB4 : Below w0.heap.size w0 w4 := hB3.trans (hb.mono hs3)
      have hs4 := hB4.size
      have O4 := Lib.hid (O3.out.is.below hb)
      have I4 := Lib.hid (I3.out.below hb)
      have J4 := Lib.hid (J3.out.below hb)
      have L4 := Lib.hid (L3.out.below hb)
      have P4 := Lib.hid (P3.out.below hb)
      have Q4 := Lib.hid (Q3.out.below hb)
      have S4 := Lib.hid ho4.is
      have U4 := Lib.hid (IsV.own hu4 (bools_len _).symm)
      clear hb ho4 hu4 O3 I3 J3 L3 Y3 P3 Q3 hB3 hs3
      go_wp2_with fail
      refine (sameb_tt P4.out S4.out).mono ?_
      rintro e w5 ⟨rfl, hb⟩
      have hB5 : Below w0.heap.size w0 w5 := hB4.trans (hb.mono hs4)
      have hs5 := hB5.size
      have O5 := Lib.hid (O4.out.below hb)
      have I5 := Lib.hid (I4.out.below hb)
      have J5 := Lib.hid (J4.out.below hb)
      have L5 := Lib.hid (L4.out.below hb)
      have Q5 := Lib.hid (Q4.out.below hb)
      have S5 := Lib.hid (S4.out.below hb)
      have U5 := Lib.hid (U4.out.below hb)
      clear hb O4 I4 J4 L4 P4 Q4 S4 U4 hB4 hs4
      go_wp2_with fail
      refine (samev_tt Q5.out U5.out).mono ?_
      rintro e w6 ⟨rfl, hb⟩
      have hB6 : Below w0.heap.size w0 w6 := hB5.trans (hb.mono hs5)
      have hs6 := hB6.size
      have I6 := Lib.hid (I5.out.below hb)
      have J6 := Lib.hid (J5.out.below hb)
      have L6 := Lib.hid (L5.out.below hb)
      obtain ⟨a3, k3, rfl, q3, m3, B3⟩ := (Q5.out.below hb).openB HLA.out
      obtain ⟨a4, k4, rfl, q4, m4, B4⟩ := (S5.out.below hb).openN HLZ.out
      obtain ⟨a5, k5, rfl, q5, m5, B5⟩ := (O5.out.below hb).openN HLR.out
      clear hb O5 I5 J5 L5 Q5 S5 U5 hB5 hs5 B5
      go_wp2_with fail
      go_loopw [21, 22] (fun s21 s22 wr => ∃ (k : Nat) (ch : Int), s21 = .int .u64 ch ∧ s22 = .int .i64 k ∧ k ≤ n ∧ Hid (0 < nl → ch = sumA rs xs cs k) ∧ wr = w6) (fun _ s22 _ => n - (intOf s22).toNat)
      case atStart => exact ⟨0, 0, rfl, rfl, by omega, Lib.hid (fun _ => rfl), rfl⟩
      case round =>
        obtain ⟨k, ch, rfl, rfl, hk, HCH, hwr⟩ := hrel
        subst hwr
        by_cases hlt : k < n
        case pos =>
          obtain ⟨b1, o1, rfl, D0⟩ := B3.out.atB (show k < aa.length by have := HLA.out; omega)
          obtain ⟨b2, o2, rfl, C0⟩ := J6.out.at (show k < cs.length by have := hm.out; omega)
          have hci : 0 ≤ nth cs k := HT.out.cost k (by have := hm.out; omega)
          have hcm : nth cs k ≤ 9223372036854775807 := HCM.out k (by have := hm.out; omega)
          have hbat : bat aa k = takB (runR rs xs cs k) (nth xs k) (nth cs k) := by rw [← EA.out]; exact bat_runA hlt
          have hsu : sumA rs xs cs (k + 1) = sumA rs xs cs k + if takB (runR rs xs cs k) (nth xs k) (nth cs k) then nth cs k else 0 := rfl
          obtain ⟨x2, ex2⟩ : ∃ x, takB (runR rs xs cs k) (nth xs k) (nth cs k) = x := ⟨_, rfl⟩
          rw [hbat, ex2] at D0
          rw [ex2] at hsu
          obtain ⟨co, eco⟩ : ∃ x, nth cs k = x := ⟨_, rfl⟩
          rw [eco] at C0 hci hcm hsu
          have u1 : IntKind.u64.wrap co = co := IntWalk.u64_in _ (by omega)
          have hkm : (k : Int) < (n : Int) := by omega
          have hk0 : (0 : Int) ≤ (k : Int) := by omega
          have HSU := Lib.hid hsu
          clear hbat ex2 eco hsu
          cases x2 with
          | true =>
            go_wp2_with fail
            go_roundw
            case rel =>
              refine ⟨k + 1, _, rfl, by go_num, by omega, Lib.hid (fun hq => ?_), by first | rfl | trivial⟩
              have h1 := HCH.out hq
              have h2 := HBS.out 0 hq (k + 1) (by omega)
              have h3 := HSU.out
              rw [if_pos rfl] at h3
              rw [h3] at h2 ⊢
              rw [h1]
              exact IntWalk.u64_in _ (by omega)
            case measure => simp [intOf]; omega
          | false =>
            go_wp2_with fail
            go_roundw
            case rel =>
              refine ⟨k + 1, _, rfl, by go_num, by omega, Lib.hid (fun hq => ?_), by first | rfl | trivial⟩
              have h1 := HCH.out hq
              have h3 := HSU.out
              rw [if_neg (by simp), Int.add_zero] at h3
              rw [h3, h1]
            case measure => simp [intOf]; omega
        case neg =>
          have HCQ : Hid (0 < nl → ch = sumA rs xs cs n) := Lib.hid (by
            have hkn : k = n := by omega
            rw [← hkn]
            exact HCH.out)
          clear HCH
          obtain ⟨wp, hwp⟩ : ∃ u : World, u = wr := ⟨_, rfl⟩
          subst hwp
          go_wp2_with fail
          refine (greatest_l (HIS.out _ I6.out)).mono ?_
          rintro e w7 ⟨rfl, hb⟩
          rw [EG.out]
          have hB7 : Below w0.heap.size w0 w7 := hB6.trans (hb.mono hs6)
          have hs7 := hB7.size
          have L7 := Lib.hid (L6.out.below hb)
          have B7 := Lib.hid (B4.out.below hb)
          clear hb L6 B4 B3 I6 J6 hB6 hs6
          go_wp2_with fail
          go_loopw [24] (fun s24 wr => ∃ k : Nat, s24 = .int .i64 k ∧ k ≤ nl ∧ Below w7.heap.size w7 wr) (fun s24 _ => nl - (intOf s24).toNat)
          case atStart => exact ⟨0, rfl, by omega, Below.refl _ _⟩
          case round =>
            obtain ⟨i, rfl, hk, hB⟩ := hrel
            have hs := hB.size
            by_cases hli : i < nl
            case pos =>
              obtain ⟨⟨lb, lr, lp⟩, elm⟩ : ∃ x, lm ls i = x := ⟨_, rfl⟩
              obtain ⟨⟨bu, ra, pe, lv, pt, ta⟩, ebz⟩ : ∃ x, bk zs i = x := ⟨_, rfl⟩
              have hbd := HBD.out i hli
              have hfu := HFU.out i hli
              rw [elm] at hfu
              rw [hfu, ebz] at hbd
              obtain ⟨y1, y2, y3, x4, x5, x6⟩ := hbd
              have x1 : bu = lb := y1
              have x2 : ra = lr := y2
              have x3 : pe = lp := y3
              clear y1 y2 y3
              subst x1 x2 x3
              have hok : Buc bu ra pe lv pt ta := by have := HZR.out.at (show i < zs.length by have := HLZ.out; omega); rw [ebz] at this; exact this
              have hta : ta = G := by have := HZA.out _ (bk_mem (show i < zs.length by have := HLZ.out; omega)); rw [ebz] at this; exact this
              subst hta
              obtain rfl : ch = sumA rs xs cs n := HCQ.out (by omega)
              have tch : isU (sumA rs xs cs n) := by unfold isU; omega
              obtain ⟨ch, ech⟩ : ∃ y, sumA rs xs cs n = y := ⟨_, rfl⟩
              rw [ech] at tch x6 ⊢
              have HOK := Lib.hid hok
              have HX6 := Lib.hid (show ch * pe + vol pe lv pt ≤ bu * pe + (ta - A) * ra from x6)
              obtain ⟨b1, o1, rfl, T0, T1, T2⟩ := L7.out.at (show i < ls.length by have := hll.out; omega) elm
              obtain ⟨b2, o2, _, _, _, _, _, _, rfl, ebk2, D0, D1, D2, D3, D4, D5⟩ := B7.out.at (show i < zs.length by have := HLZ.out; omega)
              rw [ebz] at ebk2
              cases ebk2
              have zt := lt_of_cell T0
              have zd := lt_of_cell D0
              have t0 := cell_below hB T0
              have t1 := cell_below hB T1
              have t2 := cell_below hB T2
              have d0 := cell_below hB D0
              have d1 := cell_below hB D1
              have d2 := cell_below hB D2
              have d3 := cell_below hB D3
              have d4 := cell_below hB D4
              have d5 := cell_below hB D5
              have hkm : (i : Int) < (nl : Int) := by omega
              have hk0 : (0 : Int) ≤ (i : Int) := by omega
              clear hok x4 x5 x6 elm ebz hfu ech HCQ
              obtain ⟨wq, rfl⟩ : ∃ u : World, u = wr := ⟨_, rfl⟩
              go_wp2_with fail
              have hBd : Below w7.heap.size w7 wq.drew := below_drewN hB 1
              go_still_tail 11, (by kernel_rfl)
              change wpList _ _ _ _ _ wq.drew
              obtain ⟨wz, hwz⟩ : ∃ u : World, wq.drew = u := ⟨_, rfl⟩
              rw [hwz] at hBd ⊢
              clear hwz
              go_wp2_with fail
              refine (bounded_any HOK.out tA hAG tch HX6.out _).mono ?_
              rintro e v1 ⟨rfl, hv1⟩
              have hV1 : Below w7.heap.size w7 v1 := below_thru hBd hv1
              clear hv1
              go_wp2_with fail
              go_roundw
              case rel => exact ⟨i + 1, by go_num, by omega, hV1⟩
              case measure => simp [intOf]; omega
            case neg =>
              obtain ⟨wq, rfl⟩ : ∃ u : World, u = wr := ⟨_, rfl⟩
              have hBq := hB7.trans (hB.mono hs7)
              have F1 := Lib.hid (IsB.ofN (B7.out.below hB) HLZ.out)
              clear hB hs
              go_wp2_with fail
              refine (waited_any HZR.out tG HZA.out F1.out).mono ?_
              rintro e w9 ⟨rfl, hb⟩
              have hB9 : Below w0.heap.size w0 w9 := below_thru hBq hb
              clear hb
              go_wp2_with fail
              go_returns
              exact ⟨rfl, hB9⟩

theorem top_any {ls : List Lm} {xs cs : List Int} {at0 at1 at2 : Option Addr} {c0 c1 c2 : Nat} {A : Int} {w : World} (h0 : Lms w at0 c0 ls) (tA : isU A) (hi : Ints w .u64 at1 c1 xs) (ht : ∀ k, k < xs.length → isU (nth xs k)) (hnil : at1 = none → c1 = 0) (hj : Ints w .i64 at2 c2 cs) (hc : ∀ k, k < cs.length → tickI (nth cs k)) :
    Calls Try.prog 11 #[.slice at0 ls.length c0, .int .u64 A, .slice at1 xs.length c1, .slice at2 cs.length c2] w fun e w' => e = .returned (.bool true) ∧ Below w.heap.size w w' := by
  have hl : Hid (ls.length = ls.length) := Lib.hid rfl
  have hn : Hid (xs.length = xs.length) := Lib.hid rfl
  have hm : Hid (cs.length = cs.length) := Lib.hid rfl
  rcases Nat.lt_or_ge 8 ls.length with q | q
  · exact top_many q hl hn hm h0 hi hj
  · rcases Nat.lt_or_ge 20 xs.length with z | z
    · exact top_long q z hl hn hm h0 hi hj
    · cases hx : cosB xs cs with
      | false => exact top_costs q z (Lib.hid hx) hl hn hm h0 hi hj
      | true => exact top_main q z (Lib.hid hx) tA ht (fun k hk => (hc k hk).2) hnil hl hn hm h0 hi hj
open Go.ChangeShapes Go.WideShapes Go.ChangeAt Go.Joins in
set_option maxRecDepth 100000 in
theorem open_ticksN {H : Type} {enc : TypeId × Value → H} {W : World} {r : Reach} {b0 : Nat} {v : Value} {d : DataW H} {p : List MemPlace}
    (hv : Value.okWide Try.prog W r b0 27 v) (h : DataW.Trod enc Try.prog W 0 (fun _ => true) true 27 v d p) :
    ∃ (at0 : Option Addr) (cap : Nat) (xs : List Int), v = .slice at0 xs.length cap ∧ Ints W .u64 at0 cap xs ∧ (∀ k, k < xs.length → isU (nth xs k)) ∧ (at0 = none → cap = 0) := by
  obtain ⟨at0, cap, xs, rfl, hi, hu⟩ := open_ticks hv h
  refine ⟨at0, cap, xs, rfl, hi, hu, fun q => ?_⟩
  subst q
  obtain ⟨fuel, hf⟩ := h
  rcases open_ints Try.underlying27 Try.underlying24 (by kernel_rfl) (cs := [.slice none xs.length cap]) hf with ⟨hcs, _⟩ | ⟨ad, len', cap', zs, hcs, _⟩
  · simp at hcs
    exact hcs.2
  · simp at hcs

end Go.Proofs.Ytmpcpflpcfanjaa
