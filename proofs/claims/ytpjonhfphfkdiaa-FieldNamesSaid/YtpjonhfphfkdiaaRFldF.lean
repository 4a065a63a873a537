/-
  The reference of layer 7: First.
-/
import Derived.Test.YtpjonhfphfkdiaaRFldE
namespace Go.Proofs.Ytpjonhfphfkdiaa
open Go.RowKit

/-- A digest, copied as far as k. -/
def digS (rest : List Int) (k : Nat) : List Int := rest.take k ++ List.replicate (32 - k) 0
theorem digS_len {rest : List Int} {k : Nat} (h : k ≤ rest.length) (hk : k ≤ 32) : (digS rest k).length = 32 := by unfold digS; rw [List.length_append, List.length_take, List.length_replicate]; omega
theorem digS_zero (rest : List Int) : digS rest 0 = zeroD := rfl
theorem digS_all {rest : List Int} : digS rest 32 = rest.take 32 := by unfold digS; simp
theorem digS_succ {rest : List Int} {k : Nat} (h : k < rest.length) (hk : k < 32) : (digS rest k).set k (nth rest k) = digS rest (k + 1) := by
  unfold digS
  have hl : (rest.take k).length = k := by rw [List.length_take]; omega
  rw [List.set_append_right _ _ (by omega), hl, Nat.sub_self, take_succ_nth h, show 32 - k = (32 - (k + 1)) + 1 by omega, List.replicate_succ, List.set_cons_zero, List.append_assoc]
  rfl
theorem fcell_set (k n : Int) (d : List Int) (j : Nat) (x : Int) : (fcell k n d).set (2 + j) (.int .u8 x) = fcell k n (d.set j x) := by
  unfold fcell
  rw [show 2 + j = (j + 1) + 1 by omega, List.set_cons_succ, List.set_cons_succ, List.map_set]
theorem fcell_at (k n : Int) {d : List Int} {j : Nat} (h : j < d.length) : (fcell k n d)[2 + j]? = some (.int .u8 (nth d j)) := by
  unfold fcell
  rw [show 2 + j = (j + 1) + 1 by omega, List.getElem?_cons_succ, List.getElem?_cons_succ, nth_at' j h]

set_option maxRecDepth 100000 in
set_option maxHeartbeats 1600000 in
theorem rfirst_many {v u : Value} {ks bs : List Int} (w : World) (h1 : IsL w .u8 v ks) (hl : 40 < ks.length) : Calls Try.prog 23 #[v, u] w (GivesRO (firF ks bs) (firR ks bs) (firE ks bs) w) := by
  obtain ⟨e1, e2, e3⟩ := fir_bad (ks := ks) (bs := bs) (kinE_many hl) (by decide)
  rw [e1, e2, e3]
  obtain ⟨a0, c0, rfl, hr, _⟩ := id h1
  have i1 := hr.room
  have i2 := hr.most
  have d1 : decide ((40 : Int) < (ks.length : Int)) = true := decide_eq_true (by omega)
  clear hr h1 e1 e2 e3 hl
  go_enter Try.func23, Try.ntmps23
  go_wp2_with fail
  go_returns
  exact ⟨_, _, rfl, ownF_nil, ownU_nil, Below.refl _ _⟩

set_option maxRecDepth 100000 in
set_option maxHeartbeats 6400000 in
theorem rfirst_few {v u : Value} {ks bs : List Int} (w : World) (h1 : IsL w .u8 v ks) (h2 : IsL w .u8 u bs) (hkb : ∀ k ∈ ks, 0 ≤ k ∧ k ≤ 255) (hbb : Byts bs) (hbl : bs.length ≤ 4000) (hl : ¬ 40 < ks.length) : Calls Try.prog 23 #[v, u] w (GivesRO (firF ks bs) (firR ks bs) (firE ks bs) w) := by
  have HKB := Lib.hid hkb
  have HBB := Lib.hid hbb
  obtain ⟨a0, c0, rfl, hr, _⟩ := id h1
  have i1 := hr.room
  have i2 := hr.most
  obtain ⟨a1, c1, rfl, hr1, hn1⟩ := id h2
  have j1 := hr1.room
  have j2 := hr1.most
  have HN1 := Lib.hid hn1
  have d1 : decide ((40 : Int) < (ks.length : Int)) = false := decide_eq_false (by omega)
  have HR := Lib.hid h1
  have HU := Lib.hid h2
  obtain ⟨ti, hin, hz0, hz1, hz2⟩ := info_parts info_fld
  obtain ⟨tu, hun, hu0, hu1, hu2⟩ := info_parts info_u8'
  clear hr h1 hkb hbb h2 hr1 hn1
  go_enter Try.func23, Try.ntmps23
  go_wp2_with fail
  go_loopw [7] (fun s7 wr => ∃ k : Nat, s7 = .int .i64 k ∧ k ≤ ks.length ∧ Hid (∀ x ∈ ks.take k, wid x ≠ 0) ∧ Below w.heap.size w wr) (fun s7 _ => ks.length - (intOf s7).toNat)
  case atStart => exact ⟨0, rfl, by omega, Lib.hid (fun f hf => by simp at hf), Below.refl _ _⟩
  case round =>
    obtain ⟨k, rfl, hk, HE, hB⟩ := hrel
    have hs := hB.size
    by_cases hlt : k < ks.length
    case pos =>
      obtain ⟨b, off, rfl, hc⟩ := HR.out.get k hlt
      have c0 := cell_below hB hc
      obtain ⟨x, hx⟩ : ∃ x, nth ks k = x := ⟨_, rfl⟩
      have hxm : x ∈ ks := by rw [← hx]; exact nth_mem hlt
      rw [hx] at c0
      have W := wide_is x
      have i3 : (0 : Int) ≤ (k : Int) := by omega
      have i4 : (k : Int) < (ks.length : Int) := by omega
      by_cases h0 : wid x = 0
      · have HX := Lib.hid (fir_bad (bs := bs) (kinE_bad (by omega) hxm h0) (by decide))
        rw [h0] at W
        clear h0 hxm hx hc
        go_wp2_with fail
        refine (W _).mono ?_
        rintro e w3 ⟨rfl, rfl⟩
        go_wp2_with fail
        go_returns
        refine ⟨_, _, ret3 HX.out.1.symm, ?_, ?_, hB⟩
        · rw [HX.out.2.1]; exact ownF_nil
        · rw [HX.out.2.2]; exact ownU_nil
      · have HE2 := Lib.hid (show ∀ y ∈ ks.take (k + 1), wid y ≠ 0 from fun y hy => by
          rw [take_succ_nth hlt, hx] at hy
          rcases List.mem_append.1 hy with q | q
          · exact HE.out y q
          · simp at q
            rw [q]; exact h0)
        obtain ⟨n, hn⟩ : ∃ n : Int, ((wid x : Nat) : Int) = n := ⟨_, rfl⟩
        have hz : (n == 0) = false := by rw [beq_eq_false_iff_ne]; omega
        rw [hn] at W
        clear h0 hxm hx hn hc
        go_wp2_with fail
        refine (W _).mono ?_
        rintro e w3 ⟨rfl, rfl⟩
        go_wp2_with fail
        go_roundw
        case rel => exact ⟨k + 1, by go_num, by omega, HE2, hB⟩
        case measure => simp [intOf]; omega
    case neg =>
      have hkk : ks.take k = ks := List.take_of_length_le (by omega)
      have HK := Lib.hid (show kinE ks = 0 from kinE_ok (by omega) (by have := HE.out; rwa [hkk] at this))
      clear hkk HE
      go_wp2_with fail
      clear hlt hk
      go_loopw [8, 9, 10] (fun s8 s9 s10 wr => ∃ (i m : Nat) (fs : List Fd), s10 = .int .i64 i ∧ s9 = .int .i64 m ∧ i ≤ ks.length ∧ m ≤ bs.length ∧ fs.length = i ∧ Hid (Rd (ks.take i) bs fs (bs.drop m)) ∧ Hid (wr.ownsRow w.heap.size 30 34 s8 i (flatR LF fs)) ∧ Below w.heap.size w wr) (fun _ _ s10 _ => ks.length - (intOf s10).toNat)
      case atStart => exact ⟨0, 0, [], rfl, rfl, by omega, by omega, rfl, Lib.hid (Rd.nil bs), Lib.hid ownF_nil, hB⟩
      case round =>
        clear hB hs
        obtain ⟨i, m, fs, rfl, rfl, hi, hm, hfi, HRD, HO, hB⟩ := hrel
        have hs2 := hB.size
        have hdl : (bs.drop m).length = bs.length - m := List.length_drop
        by_cases hlt : i < ks.length
        case neg =>
          have hkk : ks.take i = ks := List.take_of_length_le (by omega)
          have HX := Lib.hid (fir_some HK.out (show Rd ks bs fs (bs.drop m) by have := HRD.out; rwa [hkk] at this))
          have HO2 := Lib.hid (show wr.ownsRow w.heap.size 30 34 u8 (firF ks bs).length (flatR LF (firF ks bs)) by rw [HX.out.2.1, hfi]; exact HO.out)
          clear hkk HO
          have HL := Lib.hid (HU.out.below hB)
          have hcm : m ≤ c1 := by omega
          have hrl : (firR ks bs).length ≤ 4000 := by rw [HX.out.2.2, hdl]; omega
          cases a1 with
          | none =>
            have hc1 := HN1.out rfl
            have hm0 : m = 0 := by omega
            have hb0 : bs.length = 0 := by omega
            have HZ := Lib.hid (show firR ks bs = [] by rw [HX.out.2.2]; exact List.eq_nil_of_length_eq_zero (by omega))
            subst hc1 hm0
            go_wp2_with (at_builtin; refine wpList_append_built rfl _ _ 33 rfl 5 tu (.int .u8 0) 1 .u8 Try.underlying33 hun hu0 hu1 hu2 rfl [] [] _ (.slice none 0 0) _ _ _ rfl (by simp [hb0, Act.eval]) rfl rfl rfl rfl IsL.none (by unfold maxLen; simp) (by simp) ?_; intro v5 w5 ho5 hb5)
            go_returns
            refine ⟨_, _, ret3 HX.out.1.symm, ownR_below HO2.out hb5, ?_, below_thru hB hb5⟩
            rw [HZ.out]
            exact ownR_base ho5 hs2
          | some ad =>
            have hA : ∃ b1 off1, ad = (⟨b1, off1, none⟩ : Addr) ∨ bs.length = 0 := by
              rcases Nat.eq_zero_or_pos bs.length with q | q
              · exact ⟨0, 0, Or.inr q⟩
              · obtain ⟨b1, off1, e, _⟩ := HU.out.get 0 q
                cases e
                exact ⟨b1, off1, Or.inl rfl⟩
            have HS : ∀ (a' : Option Addr) (n' c' : Nat), n' = bs.length - m → c' = c1 - m → (a' = (if c1 = m then some ad else some (ad.add m))) → IsL wr .u8 (.slice a' n' c') (firR ks bs) := by
              intro a' n' c' hn hc ha
              rw [HX.out.2.2]
              obtain ⟨b1, off1, q | q⟩ := hA
              · subst q
                refine HL.out.dropped hm hn hc ?_
                split at ha
                · exact Or.inr ⟨by omega, by rw [ha]; simp⟩
                · rw [Go.WideShapes.add_plain] at ha
                  exact Or.inl ha
              · subst hn hc
                have e : bs.drop m = [] := List.eq_nil_of_length_eq_zero (by omega)
                rw [e]
                refine ⟨a', c1 - m, by rw [show bs.length - m = 0 by omega]; rfl, ⟨by simp, by omega, fun h => by simp at h⟩, fun h => ?_⟩
                rw [h] at ha
                split at ha <;> cases ha
            have HSH := Lib.hid HS
            clear HS hA
            go_wp2_with (at_builtin; refine wpList_append_built rfl _ _ 33 rfl 5 tu (.int .u8 0) 1 .u8 Try.underlying33 hun hu0 hu1 hu2 rfl [] (firR ks bs) _ (.slice (if c1 = m then some ad else some (ad.add m)) (bs.length - m) (c1 - m)) _ _ _ rfl rfl rfl rfl rfl rfl (HSH.out _ _ _ rfl rfl rfl) (by unfold maxLen; simp; omega) (by simp; omega) ?_; intro v5 w5 ho5 hb5)
            all_goals
              go_returns
              exact ⟨_, _, ret3 HX.out.1.symm, ownR_below HO2.out hb5, ownR_base ho5 hs2, below_thru hB hb5⟩
        case pos =>
          obtain ⟨b, off, rfl, hc⟩ := HR.out.get i hlt
          have c1' := cell_below hB hc
          obtain ⟨x, hx⟩ : ∃ x, nth ks i = x := ⟨_, rfl⟩
          rw [hx] at c1'
          have hxb : 0 ≤ x ∧ x ≤ 255 := by rw [← hx]; exact HKB.out _ (nth_mem hlt)
          have HSP := Lib.hid (split_at hlt)
          rw [hx] at HSP
          have HTK := Lib.hid (take_succ_nth hlt)
          rw [hx] at HTK
          have hx0 : wid x ≠ 0 := by rw [← hx]; exact (kinE_zero HK.out).2 _ (nth_mem hlt)
          have W := wide_is x
          have hxw := wid_le x
          have i3 : (0 : Int) ≤ (i : Int) := by omega
          have i4 : (i : Int) < (ks.length : Int) := by omega
          clear hc hx
          by_cases hsh : (bs.drop m).length < wid x
          · have HX := Lib.hid (fir_none HK.out (show rd ks bs = none by rw [HSP.out]; exact rd_none HRD.out (Or.inl hsh)))
            rw [hdl] at hsh
            obtain ⟨n, hn⟩ : ∃ n, wid x = n := ⟨_, rfl⟩
            rw [hn] at W hsh hxw
            have d2 : decide ((bs.length : Int) - (m : Int) < (n : Int)) = true := decide_eq_true (by omega)
            clear hn hx0
            go_wp2_with fail
            refine (W _).mono ?_
            rintro e w3 ⟨rfl, rfl⟩
            go_wp2_with fail
            go_returns
            refine ⟨_, _, ret3 HX.out.1.symm, ?_, ?_, hB⟩
            · rw [HX.out.2.1]; exact ownF_nil
            · rw [HX.out.2.2]; exact ownU_nil
          · have hlen : ((bs.drop m).take (wid x)).length = wid x := by rw [List.length_take]; omega
            have hbt : Byts ((bs.drop m).take (wid x)) := (HBB.out.drop m).take _
            have HNX : (fld x ((bs.drop m).take (wid x))).ok = true → Rd (ks.take (i + 1)) bs (fs ++ [fld x ((bs.drop m).take (wid x))]) (bs.drop (m + wid x)) := fun h => by rw [HTK.out, ← List.drop_drop]; exact HRD.out.snoc HBB.out hxb (by omega) h
            have HNO : (fld x ((bs.drop m).take (wid x))).ok = false → rd ks bs = none := fun h => by rw [HSP.out]; exact rd_none HRD.out (Or.inr h)
            have HFV := fld_v hxb hlen hbt
            rw [hdl] at hsh
            obtain ⟨rs, hrs⟩ : ∃ rs, (bs.drop m).take (wid x) = rs := ⟨_, rfl⟩
            have HNT : ∀ j, j < wid x → nth rs j = nth bs (m + j) := fun j hj => by rw [← hrs, nth_take hj, nth_drop]
            rw [hrs] at HNX HNO HFV hlen hbt
            obtain ⟨b1, off1, rfl, _⟩ := HU.out.get m (by omega)
            have HSL : ∀ (W : World) (a' : Option Addr) (c' : Nat), Below w.heap.size w W → c' = c1 - m → a' = some ⟨b1, off1 + m, none⟩ → IsL W .u8 (.slice a' (wid x) c') rs := fun W a' c' hW hc ha => by
              rw [← hrs]
              exact (IsL.dropped (HU.out.below hW) hm rfl hc (Or.inl ha)).taken (by omega)
            have HGT : ∀ (W : World) (j : Nat), Below w.heap.size w W → j < wid x → W.cell? ⟨b1, off1 + (m + j), none⟩ = some (.int .u8 (nth rs j)) := fun W j hW hj => by
              obtain ⟨b', off', e, hc⟩ := (HU.out.below hW).get (m + j) (by omega)
              cases e
              rw [hc, HNT j hj]
            have HSL := Lib.hid HSL
            have HGT := Lib.hid HGT
            obtain ⟨f, hf⟩ : ∃ f, fld x rs = f := ⟨_, rfl⟩
            rw [hf] at HNX HNO HFV
            have C := rcheck_is f
            have hS := lenFld f
            have HF1 := Lib.hid (flatR_app LF fs [f])
            have HF2 := Lib.hid (flatR_one LF f)
            have HS6 := Lib.hid (show x = 6 → wid x = 32 from wid_six)
            have HW8 := Lib.hid (show x = 6 ∨ wid x ≤ 8 from by unfold wid; (repeat' split) <;> simp_all)
            obtain ⟨V, hV⟩ : ∃ V, f.v = V := ⟨_, rfl⟩
            have hVl : V.length = 34 := by rw [← hV]; exact f.v_len
            rw [show LF.f f = V from hV] at HF2
            rw [hV] at hS C HFV
            obtain ⟨n, hn⟩ : ∃ n, wid x = n := ⟨_, rfl⟩
            rw [hn] at W hsh hxw HSL HGT HNX hx0 hlen HS6 HW8
            have d2 : decide ((bs.length : Int) - (m : Int) < (n : Int)) = false := decide_eq_false (by omega)
            have HNX := Lib.hid HNX
            have HNO := Lib.hid HNO
            have hmn : m + n ≤ bs.length := by omega
            clear hf hn hrs HNT hV hsh
            have hz : (fcell x 0 zeroD).length = V.length := by rw [fcell_len _ _ _ rfl, hVl]
            go_wp2_with fail
            refine (W _).mono ?_
            rintro e w3 ⟨rfl, rfl⟩
            go_upto_region 17 with (refine wpList_store_box (cs := fcell x 0 zeroD) rfl _ _ _ rfl (Box.newc (l := Fd.zero.v) rfl rfl) rfl rfl (sizeC _ _ _ rfl) rfl (oneC _ _ _) ?_; intro w4 hW4)
            have hg4 : Below w3.heap.size w3 w4 := hW4.below _ _ (Nat.le_refl _) (by go_grown)
            have hB4 : Below w.heap.size w w4 := below_thru hB hg4
            have hX4 := hW4.box
            have hcn : ¬ c1 = m := by omega
            have c2' := cell_below hg4 c1'
            obtain ⟨bx, hbx⟩ : ∃ bx, w3.heap.size = bx := ⟨_, rfl⟩
            rw [hbx] at hX4 hs2
            have hbo : bx < w4.heap.size := hX4.lt
            clear hW4
            by_cases h6 : x = 6
            · subst h6
              obtain rfl := HS6.out rfl
              have hFV : V = fcell 6 0 rs := HFV
              have v0 : V[0]? = some (.int .u8 6) := by rw [hFV]; rfl
              have HFV2 := Lib.hid hFV
              clear HFV hFV
              rw [hbx] at hg4
              go_wp2_with fail
              go_loopw [13] (fun s13 wr => ∃ j : Nat, s13 = .int .i64 j ∧ j ≤ 32 ∧ Box wr bx (fcell 6 0 (digS rs j)) ∧ Below bx w3 wr ∧ Below w.heap.size w wr) (fun s13 _ => 32 - (intOf s13).toNat)
              case atStart => exact ⟨0, rfl, by omega, hX4, hg4, hB4⟩
              case round =>
                clear hX4 hg4 hB4 hbo
                obtain ⟨j, rfl, hj, hXT, hgT, hBT⟩ := hrel
                have hzz := hXT.lt
                by_cases hjl : j < 32
                case pos =>
                  have HGj := HGT.out _ j hBT (by omega)
                  obtain ⟨y, hy⟩ : ∃ y, nth rs j = y := ⟨_, rfl⟩
                  rw [hy] at HGj
                  have hdl2 := digS_len (rest := rs) (k := j) (by omega) (by omega)
                  have g1 := hXT.c (2 + j) _ (fcell_at 6 0 (by omega))
                  have g2 := hXT.f (2 + j) _ (fcell_at 6 0 (by omega))
                  have k0 : (0 : Int) ≤ (m : Int) + (j : Int) := by omega
                  have k1 : (m : Int) + (j : Int) < (bs.length : Int) := by omega
                  have HDS := Lib.hid (show (digS rs j).set j y = digS rs (j + 1) by rw [← hy]; exact digS_succ (by omega) hjl)
                  clear hy
                  go_wp2_with fail
                  go_roundw
                  case rel =>
                    refine ⟨j + 1, by go_num, by omega, ?_, hgT.setCell (Nat.le_refl _) _, hBT.setCell hs2 _⟩
                    rw [← HDS.out, ← fcell_set]
                    exact hXT.set (2 + j) _
                  case measure => simp [intOf]; omega
                case neg =>
                  obtain rfl : j = 32 := by omega
                  rw [digS_all, List.take_of_length_le (by omega), ← HFV2.out] at hXT
                  rw [← hbx] at hgT
                  have hST := hBT.size
                  have hzT := hXT.lt
                  have vT := hXT.c 0 _ v0
                  go_wp2_with (refine wpList_load_box rfl _ _ rfl hXT rfl Try.underlying30 rfl hS ?_)
                  refine (C _).mono ?_
                  rintro e w6 ⟨rfl, hb6⟩
                  have hB6 := below_thru hBT hb6
                  have hs6 := hB6.size
                  have hX6 := hXT.below hb6
                  have hO6 := Lib.hid (ownR_below HO.out (below_thru hgT hb6))
                  clear hXT hb6 hgT hBT hST hzT vT
                  rcases Fd.err_two f with ⟨y1, y2⟩ | ⟨y1, y2⟩
                  · rw [y2]
                    have HRD2 := Lib.hid (HNX.out y1)
                    clear y1 y2 HNX HNO
                    have hO7 := fun (X : Array Value) => ownR_below hO6.out ((Below.refl w6.heap.size w6).alloc (Nat.le_refl _) (.cells X 30))
                    have HBS := Lib.hid (fun W => run_bslice (P := Try.prog) W 32 30 ti _ 34 Try.underlying32 hin hz0 hz1 rfl V hVl (by decide) (by decide))
                    go_wp2_with (first | (at_builtin; refine wpList_append_rows rfl LF _ _ 32 rfl w.heap.size 30 ti (.agg Fd.zero.v.toArray) 34 48 rfl Try.underlying32 hin hz0 hz1 hz2 rfl _ i _ rfl (hO7 _) _ [f] rfl (IsR.ofBox (Box.newc rfl rfl) HF2.out.symm rfl (by decide)) (by unfold maxLen; simp; omega) (by simp; omega) (by simp; omega) ?_; intro v8 w8 hO8 hg8) | refine wpList_load_box rfl _ _ rfl hX6 rfl Try.underlying30 rfl hS ?_ | refine wpList_bslice rfl 32 1 _ rfl (u := .agg V.toArray) (by rfl) (HBS.out _) ?_)
                    have hB8 : Below w.heap.size w w8 := (hB6.alloc hs6 _).grown hg8 (by simp; omega) (ownR_block (hO7 V.toArray))
                    have HO8 := Lib.hid hO8
                    clear hO8 hg8 hO7 hO6 hX6
                    go_wp2_with fail
                    go_roundw
                    case rel => exact ⟨i + 1, m + 32, fs ++ [f], by go_num, by go_num, by omega, by omega, by simp [hfi], HRD2, Lib.hid (by rw [HF1.out]; exact HO8.out), hB8⟩
                    case measure => simp [intOf]; omega
                  · rw [y2]
                    have HX := Lib.hid (fir_none HK.out (HNO.out y1))
                    clear y1 y2
                    go_wp2_with fail
                    go_returns
                    refine ⟨_, _, ret3 HX.out.1.symm, ?_, ?_, hB6⟩
                    · rw [HX.out.2.1]; exact ownF_nil
                    · rw [HX.out.2.2]; exact ownU_nil

            · have hFV : V = fcell x (num rs) zeroD := by
                have e1 : fldN x rs = num rs := if_neg h6
                have e2 : fldD x rs = zeroD := if_neg h6
                rw [e1, e2] at HFV
                exact HFV
              have v0 : V[0]? = some (.int .u8 x) := by rw [hFV]; rfl
              have HFV2 := Lib.hid hFV
              have hw8 : n ≤ 8 := HW8.out.resolve_left h6
              have hx6 : (x == 6) = false := by simpa using h6
              have hsl := HSL.out _ _ _ hB4 rfl rfl
              have HSL4 := Lib.hid hsl
              have HLN := Lib.hid (show rs.length ≤ 8 by omega)
              clear HFV hFV h6 hsl hlen
              go_wp2_with fail
              refine (rnum_is _ HSL4.out HLN.out hbt).mono ?_
              rintro e w5 ⟨rfl, hb5⟩
              have hX5 := hX4.below hb5
              have hB5 := below_thru hB4 hb5
              have hg5 := below_thru hg4 hb5
              have g1 := hX5.c 1 _ rfl
              have g2 := hX5.f 1 _ rfl
              have hz5 := hX5.lt
              rw [hbx] at hg5
              obtain ⟨NN, hNN⟩ : ∃ NN, num rs = NN := ⟨_, rfl⟩
              rw [hNN] at HFV2
              rw [hNN]
              have hXT : Box (w5.setCell ⟨bx, 1, none⟩ (.int .u64 NN)) bx V := by rw [HFV2.out]; exact hX5.set 1 _
              have hBT : Below w.heap.size w (w5.setCell ⟨bx, 1, none⟩ (.int .u64 NN)) := hB5.setCell hs2 _
              have hgT : Below w3.heap.size w3 (w5.setCell ⟨bx, 1, none⟩ (.int .u64 NN)) := by
                rw [hbx]
                exact hg5.setCell (Nat.le_refl _) _
              clear hX4 hB4 hg4 hbo hNN HSL4 c2' hb5
              go_upto_region 23 with fail
              clear hX5 hB5 hg5 g1 g2 hz5
              have hST := hBT.size
              have hzT := hXT.lt
              have vT := hXT.c 0 _ v0
              go_wp2_with (refine wpList_load_box rfl _ _ rfl hXT rfl Try.underlying30 rfl hS ?_)
              refine (C _).mono ?_
              rintro e w6 ⟨rfl, hb6⟩
              have hB6 := below_thru hBT hb6
              have hs6 := hB6.size
              have hX6 := hXT.below hb6
              have hO6 := Lib.hid (ownR_below HO.out (below_thru hgT hb6))
              clear hXT hb6 hgT hBT hST hzT vT
              rcases Fd.err_two f with ⟨y1, y2⟩ | ⟨y1, y2⟩
              · rw [y2]
                have HRD2 := Lib.hid (HNX.out y1)
                clear y1 y2 HNX HNO
                have hO7 := fun (X : Array Value) => ownR_below hO6.out ((Below.refl w6.heap.size w6).alloc (Nat.le_refl _) (.cells X 30))
                have HBS := Lib.hid (fun W => run_bslice (P := Try.prog) W 32 30 ti _ 34 Try.underlying32 hin hz0 hz1 rfl V hVl (by decide) (by decide))
                go_wp2_with (first | (at_builtin; refine wpList_append_rows rfl LF _ _ 32 rfl w.heap.size 30 ti (.agg Fd.zero.v.toArray) 34 48 rfl Try.underlying32 hin hz0 hz1 hz2 rfl _ i _ rfl (hO7 _) _ [f] rfl (IsR.ofBox (Box.newc rfl rfl) HF2.out.symm rfl (by decide)) (by unfold maxLen; simp; omega) (by simp; omega) (by simp; omega) ?_; intro v8 w8 hO8 hg8) | refine wpList_load_box rfl _ _ rfl hX6 rfl Try.underlying30 rfl hS ?_ | refine wpList_bslice rfl 32 1 _ rfl (u := .agg V.toArray) (by rfl) (HBS.out _) ?_)
                have hB8 : Below w.heap.size w w8 := (hB6.alloc hs6 _).grown hg8 (by simp; omega) (ownR_block (hO7 V.toArray))
                have HO8 := Lib.hid hO8
                clear hO8 hg8 hO7 hO6 hX6
                go_wp2_with fail
                go_roundw
                case rel => exact ⟨i + 1, m + n, fs ++ [f], by go_num, by go_num, by omega, by omega, by simp [hfi], HRD2, Lib.hid (by rw [HF1.out]; exact HO8.out), hB8⟩
                case measure => simp [intOf]; omega
              · rw [y2]
                have HX := Lib.hid (fir_none HK.out (HNO.out y1))
                clear y1 y2
                go_wp2_with fail
                go_returns
                refine ⟨_, _, ret3 HX.out.1.symm, ?_, ?_, hB6⟩
                · rw [HX.out.2.1]; exact ownF_nil
                · rw [HX.out.2.2]; exact ownU_nil

theorem rfirst_is {v u : Value} {ks bs : List Int} (w : World) (h1 : IsL w .u8 v ks) (h2 : IsL w .u8 u bs) (hkb : ∀ k ∈ ks, 0 ≤ k ∧ k ≤ 255) (hbb : Byts bs) (hbl : bs.length ≤ 4000) : Calls Try.prog 23 #[v, u] w (GivesRO (firF ks bs) (firR ks bs) (firE ks bs) w) := by
  by_cases hl : 40 < ks.length
  · exact rfirst_many w h1 hl
  · exact rfirst_few w h1 h2 hkb hbb hbl hl

end Go.Proofs.Ytpjonhfphfkdiaa
