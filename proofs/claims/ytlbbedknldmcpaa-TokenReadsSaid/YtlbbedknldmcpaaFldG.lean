/-
  Package field, walked: readRow.
-/
import Derived.Test.YtlbbedknldmcpaaFldF
import Derived.Test.YtlbbedknldmcpaaMacR
import Derived.Test.YtlbbedknldmcpaaBuild
namespace Go.Proofs.Ytlbbedknldmcpaa
open Go.RowKit

/-- A slice cut ahead. -/
theorem IsL.dropped {w : World} {k : IntKind} {b off n c m : Nat} {xs : List Int} (h : IsL w k (.slice (some ⟨b, off, Option.none⟩) n c) xs) (hm : m ≤ xs.length) {n' c' : Nat} {a' : Option Addr} (hn : n' = xs.length - m) (hc : c' = c - m) (ha : a' = some ⟨b, off + m, Option.none⟩ ∨ (xs.length - m = 0 ∧ a' ≠ Option.none)) :
    IsL w k (.slice a' n' c') (xs.drop m) := by
  obtain ⟨a0, c0, e, hi, _⟩ := h
  injection e with e1 e2 e3
  subst e2 e3 hn hc
  have hl : (xs.drop m).length = xs.length - m := List.length_drop
  have h1 := hi.room
  have h2 := hi.most
  refine ⟨a', c - m, by rw [hl], ⟨by omega, by omega, fun h0 => ?_⟩, fun q => ?_⟩
  · rcases ha with rfl | ⟨q, _⟩
    · refine ⟨b, off + m, rfl, fun i hi' => ?_⟩
      obtain ⟨b', off', e', hc'⟩ := hi.cells (by omega)
      rw [← e1] at e'
      cases e'
      rw [nth_drop, Nat.add_assoc]
      exact hc' (m + i) (by omega)
    · omega
  · rcases ha with rfl | ⟨_, q'⟩
    · cases q
    · exact absurd q q'
theorem IsL.taken {w : World} {k : IntKind} {a : Option Addr} {n c m : Nat} {xs : List Int} (h : IsL w k (.slice a n c) xs) (hm : m ≤ xs.length) : IsL w k (.slice a m c) (xs.take m) := by
  obtain ⟨a0, c0, e, hi, h0⟩ := h
  injection e with e1 e2 e3
  subst e1 e2 e3
  exact ⟨a, c, by rw [List.length_take, Nat.min_eq_left hm], hi.take m hm, h0⟩

theorem if_alt {c m n : Nat} {a' : Option Addr} {b1 o1 : Nat} (h : a' = if c = m then some ⟨b1, o1, none⟩ else some ⟨b1, o1 + m, none⟩) (hz : c = m → n - m = 0) : a' = some ⟨b1, o1 + m, none⟩ ∨ (n - m = 0 ∧ a' ≠ none) := by
  split at h
  · rename_i q
    exact Or.inr ⟨hz q, by rw [h]; simp⟩
  · exact Or.inl h
theorem ret3 {v u : Value} {c d : Int} (h : c = d) : Ending.returned (.tuple #[v, u, .int .i64 c]) = .returned (.tuple #[v, u, .int .i64 d]) := by rw [h]
theorem IsR.ofBox {α : Type} {L : Lay α} {w : World} {b n : Nat} {V : List Value} {xs : List α} (h : Box w b V) (hV : V = flatR L xs) (hn : n = xs.length) (hm : n ≤ 1000) : IsR L w (.slice (some ⟨b, 0, Option.none⟩) n n) xs := by
  subst hn hV
  refine ⟨some ⟨b, 0, Option.none⟩, xs.length, rfl, ⟨Nat.le_refl _, by omega, fun _ => ⟨b, 0, rfl, fun i x hi j v hv => ?_⟩, fun q => by cases q⟩⟩
  rw [Nat.zero_add]
  exact h.c _ _ (flatR_at hi hv)

def GivesRL (fs : List Fd) (bs : List Int) (c : Int) (w : World) (e : Ending) (w' : World) : Prop :=
  ∃ v u, e = .returned (.tuple #[v, u, .int .i64 c]) ∧ w'.ownsRow w.heap.size 44 34 v fs.length (flatR LF fs) ∧ IsL w' .u8 u bs ∧ Below w.heap.size w w'
theorem ownF_nil {w : World} {B : Nat} : w.ownsRow B 44 34 (.slice none 0 0) ([] : List Fd).length (flatR LF []) := ⟨rfl, Or.inl ⟨rfl, rfl⟩⟩
set_option maxRecDepth 100000 in
theorem info_fld : (Try.prog.info? 44).map (fun i => (i.zero, i.size, i.bytes)) = some (some (.agg Fd.zero.v.toArray), 34, 48) := by kernel_rfl
theorem nth_mem {xs : List Int} {k : Nat} (h : k < xs.length) : nth xs k ∈ xs := by
  unfold nth
  rw [List.getD_eq_getElem?_getD, List.getElem?_eq_getElem h, Option.getD_some]
  exact List.getElem_mem h
theorem split_at {xs : List Int} {k : Nat} (h : k < xs.length) : xs = xs.take k ++ nth xs k :: xs.drop (k + 1) := by
  have e := take_succ_nth h
  have := List.take_append_drop (k + 1) xs
  rw [e, List.append_assoc] at this
  exact this.symm

set_option maxRecDepth 100000 in
set_option maxHeartbeats 1600000 in
theorem readRow_bad {v u : Value} {ks bs : List Int} (w : World) (h1 : IsL w .u8 v ks) (he : kinE ks ≠ 0) : Calls Try.prog 16 #[v, u] w (GivesRL (firF ks bs) (firR ks bs) (firE ks bs) w) := by
  have C := ckinds_is w h1
  obtain ⟨e1, e2, e3⟩ := fir_bad (ks := ks) (bs := bs) rfl he
  rw [e1, e2, e3]
  obtain ⟨c, hc⟩ : ∃ c, kinE ks = c := ⟨_, rfl⟩
  rw [hc] at C he ⊢
  have hn : (c != 0) = true := by simpa using he
  clear hc he e1 e2 e3
  go_enter Try.func16, Try.ntmps16
  go_wp2_with fail
  refine C.mono ?_
  rintro e w1 ⟨rfl, hb⟩
  go_wp2_with fail
  go_returns
  exact ⟨_, _, rfl, ownF_nil, IsL.none, hb⟩

set_option maxRecDepth 100000 in
set_option maxHeartbeats 3200000 in
theorem readRow_ok {v u : Value} {ks bs : List Int} (w : World) (h1 : IsL w .u8 v ks) (h2 : IsL w .u8 u bs) (hkb : ∀ k ∈ ks, 0 ≤ k ∧ k ≤ 255) (hbb : Byts bs) (he : kinE ks = 0) : Calls Try.prog 16 #[v, u] w (GivesRL (firF ks bs) (firR ks bs) (firE ks bs) w) := by
  have C := ckinds_is w h1
  rw [he] at C
  have HK := Lib.hid he
  have HKB := Lib.hid hkb
  have HBB := Lib.hid hbb
  obtain ⟨a0, c0, rfl, hr, _⟩ := id h1
  have i1 := hr.room
  have i2 := hr.most
  have i3 := (kinE_zero he).1
  have HR := Lib.hid h1
  have HU := Lib.hid h2
  obtain ⟨ti, hin, hz0, hz1, hz2⟩ := info_parts info_fld
  clear hr he h1 hkb hbb h2
  go_enter Try.func16, Try.ntmps16
  go_wp2_with fail
  refine C.mono ?_
  rintro e w1 ⟨rfl, hb⟩
  have hs := hb.size
  go_upto_region 5 with (refine wpList_make_own _ rfl _ _ _ rfl w.heap.size 44 ti _ 34 Try.underlying40 hin hz0 hz1 _ _ _ ks.length rfl rfl rfl (by rw [hz2]; omega) (by unfold maxLen; omega) hs ?_; intro w2 hown hgrow)
  have hB := hb.grown hgrow hs (by intro k hk; cases hk)
  clear hgrow C
  go_wp2_with fail
  go_loopw [1, 8, 23] (fun s1 s8 s23 wr => ∃ (k : Nat) (fs : List Fd) (rest : List Int), s23 = .int .i64 k ∧ k ≤ ks.length ∧ fs.length = k ∧ Hid (Rd (ks.take k) bs fs rest) ∧ Hid (wr.ownsRow w.heap.size 44 34 s8 k (flatR LF fs)) ∧ Hid (IsL w .u8 s1 rest) ∧ Below w.heap.size w wr) (fun _ _ s23 _ => ks.length - (intOf s23).toNat)
  case atStart => exact ⟨0, [], bs, rfl, by omega, rfl, Lib.hid (Rd.nil bs), Lib.hid hown, HU, hB⟩
  case round =>
    clear hB hown HU
    obtain ⟨k, fs, rest, rfl, hk, hfk, HRD, HO, HL, hB⟩ := hrel
    have hs2 := hB.size
    by_cases hlt : k < ks.length
    case neg =>
      have hkk : ks.take k = ks := List.take_of_length_le (by omega)
      have HX := Lib.hid (fir_some HK.out (show Rd ks bs fs rest by have := HRD.out; rwa [hkk] at this))
      clear hkk
      go_wp2_with fail
      go_returns
      refine ⟨_, _, ret3 HX.out.1.symm, ?_, ?_, hB⟩
      · rw [HX.out.2.1, hfk]; exact HO.out
      · rw [HX.out.2.2]; exact HL.out.below hB
    case pos =>
      obtain ⟨b, off, rfl, hc⟩ := HR.out.get k hlt
      have c1 := cell_below hB hc
      obtain ⟨x, hx⟩ : ∃ x, nth ks k = x := ⟨_, rfl⟩
      rw [hx] at c1
      have hxb : 0 ≤ x ∧ x ≤ 255 := by rw [← hx]; exact HKB.out _ (nth_mem hlt)
      have HSP := Lib.hid (split_at hlt)
      rw [hx] at HSP
      have HTK := Lib.hid (take_succ_nth hlt)
      rw [hx] at HTK
      have hx0 : wid x ≠ 0 := by rw [← hx]; exact (kinE_zero HK.out).2 _ (nth_mem hlt)
      have W := wd_is x
      obtain ⟨a1, q1, rfl, hr1, _⟩ := id HL.out
      have j1 := hr1.room
      have j2 := hr1.most
      have hxw := wid_le x
      clear hr1 hc hx
      by_cases hsh : rest.length < wid x
      · have HX := Lib.hid (fir_none HK.out (show rd ks bs = none by rw [HSP.out]; exact rd_none HRD.out (Or.inl hsh)))
        obtain ⟨n, hn⟩ : ∃ n, wid x = n := ⟨_, rfl⟩
        rw [hn] at W hsh hxw
        have d1 : decide ((rest.length : Int) < (n : Int)) = true := decide_eq_true (by omega)
        clear hn hx0
        go_wp2_with fail
        refine (W _).mono ?_
        rintro e w3 ⟨rfl, rfl⟩
        go_wp2_with fail
        go_returns
        refine ⟨_, _, ret3 HX.out.1.symm, ?_, ?_, hB⟩
        · rw [HX.out.2.1]; exact ownF_nil
        · rw [HX.out.2.2]; exact IsL.none
      · obtain ⟨b1, off1, rfl, _⟩ := HL.out.get 0 (by omega)
        have hsl := HL.out.taken (m := wid x) (by omega)
        have hlen : (rest.take (wid x)).length = wid x := by rw [List.length_take]; omega
        have hbr : Byts rest := Byts.right (by rw [HRD.out.b]; exact HBB.out)
        have FO := fun (W : World) (hW : IsL W .u8 (.slice (some ⟨b1, off1, none⟩) (wid x) q1) (rest.take (wid x))) => fieldOf_is W hW hxb hlen (hbr.take _)
        have HD : ∀ (W : World) (n' c' : Nat) (a' : Option Addr), IsL W .u8 (.slice (some ⟨b1, off1, none⟩) rest.length q1) rest → n' = rest.length - wid x → c' = q1 - wid x → a' = (if q1 = wid x then some ⟨b1, off1, none⟩ else some ⟨b1, off1 + wid x, none⟩) → IsL W .u8 (.slice a' n' c') (rest.drop (wid x)) := fun W n' c' a' h hn hc ha => h.dropped (by omega) hn hc (if_alt ha (fun q => by omega))
        have HNX : (fld x (rest.take (wid x))).ok = true → Rd (ks.take (k + 1)) bs (fs ++ [fld x (rest.take (wid x))]) (rest.drop (wid x)) := fun h => by rw [HTK.out]; exact HRD.out.snoc HBB.out hxb (by omega) h
        have HNO : (fld x (rest.take (wid x))).ok = false → rd ks bs = none := fun h => by rw [HSP.out]; exact rd_none HRD.out (Or.inr h)
        obtain ⟨f, hf⟩ : ∃ f, fld x (rest.take (wid x)) = f := ⟨_, rfl⟩
        rw [hf] at FO HNX HNO
        obtain ⟨n, hn⟩ : ∃ n, wid x = n := ⟨_, rfl⟩
        rw [hn] at W hsh hxw hsl FO HD HNX hx0
        have d1 : decide ((rest.length : Int) < (n : Int)) = false := decide_eq_false (by omega)
        have hle : n ≤ rest.length := by omega
        have HNX := Lib.hid HNX
        have HNO := Lib.hid HNO
        have HD := Lib.hid HD
        have hS := lenFld f
        have h1 := oneFld f
        have hz : Fd.zero.v.length = f.v.length := by rw [f.v_len, Fd.v_len]
        have C := check_is f
        have HF1 := Lib.hid (flatR_app LF fs [f])
        have HF2 := Lib.hid (flatR_one LF f)
        obtain ⟨V, hV⟩ : ∃ V, f.v = V := ⟨_, rfl⟩
        have hVl : V.length = 34 := by rw [← hV]; exact f.v_len
        rw [show LF.f f = V from hV] at HF2
        rw [hV] at hS h1 hz C FO
        clear hf hn hlen hbr hV
        have HSL := Lib.hid (hsl.below hB)
        clear hsl
        go_wp2_with fail
        refine (W _).mono ?_
        rintro e w3 ⟨rfl, rfl⟩
        go_wp2_with fail
        refine (FO _ HSL.out).mono ?_
        rintro e w4 ⟨rfl, hb4⟩
        have hB4 := below_thru hB hb4
        have hs4 := hB4.size
        go_upto_region 12 with (refine wpList_store_box (cs := V) rfl _ _ _ rfl (Box.newc (l := Fd.zero.v) rfl rfl) rfl rfl hS hz h1 ?_; intro w5 hW5)
        have hg5 : Below w4.heap.size w4 w5 := hW5.below _ _ (Nat.le_refl _) (by go_grown)
        have hB5 : Below w.heap.size w w5 := below_thru hB4 hg5
        have hbx := hW5.box
        have hg35 := below_thru hb4 hg5
        clear hW5 hg5 hB4 hb4 FO
        go_wp2_with (refine wpList_load_box rfl _ _ rfl hbx rfl Try.underlying44 rfl hS ?_)
        refine (C _).mono ?_
        rintro e w6 ⟨rfl, hb6⟩
        have hB6 := below_thru hB5 hb6
        have hg36 := below_thru hg35 hb6
        have hbx6 := hbx.below hb6
        clear hB5 hb6 hg35 hbx C
        rcases Fd.err_two f with ⟨y1, y2⟩ | ⟨y1, y2⟩
        · rw [y2]
          have HRD2 := Lib.hid (HNX.out y1)
          have HO6 := Lib.hid (ownR_below HO.out hg36)
          have hs6 := hB6.size
          clear y1 y2 HO hg36 HNX HNO hB HSL
          go_upto_region 14 with fail
          refine wp_region_held_drew (S := fun _ => True) (by kernel_rfl) trivial (fun _ => ?_)
          refine F_drew (F := fun W => wpAnyH _ _ _ _ _ _ _ _ W) ?_
          intro W0 hb0
          have hx0 := hbx6.below hb0; have hO0 := ownR_below HO6.out hb0; have hB0 := below_thru hB6 hb0; have hs0 := hB0.size
          clear hbx6 HO6 hB6 hb0
          refine takeH 0 41 (v := ?vr0_1) rfl (by rfl) (by kernel_rfl) (by kernel_rfl) (by kernel_rfl) (fun _ _ _ h => h) (Or.inl ⟨by rfl, ?_⟩) (trivial) ?_
          rotate_left
          · intro wq hSq
            go_simp
            exact rfl
          try simp only [Act.put, List.setIfInBounds_toArray, List.set_cons_zero, List.set_cons_succ]
          refine takeH 4 45 (v := ?vr4_2) rfl (by rfl) (by kernel_rfl) (by kernel_rfl) (by kernel_rfl) (fun _ _ _ h => h) (Or.inl ⟨by rfl, ?_⟩) (trivial) ?_
          rotate_left
          · intro wq hSq
            go_simp
            exact rfl
          try simp only [Act.put, List.setIfInBounds_toArray, List.set_cons_zero, List.set_cons_succ]
          refine takeH 5 46 (v := ?vr5_3) rfl (by rfl) (by kernel_rfl) (by kernel_rfl) (by kernel_rfl) (fun _ _ _ h => h) (Or.inl ⟨by rfl, ?_⟩) (trivial) ?_
          rotate_left
          · intro wq hSq
            go_simp
            exact rfl
          try simp only [Act.put, List.setIfInBounds_toArray, List.set_cons_zero, List.set_cons_succ]
          refine takeH 6 47 (v := ?vr6_4) rfl (by rfl) (by kernel_rfl) (by kernel_rfl) (by kernel_rfl) (fun _ _ _ h => h) (Or.inl ⟨by rfl, ?_⟩) (trivial) ?_
          rotate_left
          · intro wq hSq
            go_simp
            exact rfl
          try simp only [Act.put, List.setIfInBounds_toArray, List.set_cons_zero, List.set_cons_succ]
          refine wpAnyH_ready (rs := [1]) (by kernel_rfl) (by simp) (AllReadyH.cons rfl (fun K hK => ?_) AllReadyH.nil)
          refine step_load_box rfl _ _ rfl hx0 rfl Try.underlying44 rfl hS ?_
          refine hK.out _ _ trivial (fun _ => ?_); clear hK K
          refine wpAnyH_ready (rs := [2]) (by kernel_rfl) (by simp) (AllReadyH.cons rfl (fun K hK => ?_) AllReadyH.nil)
          refine step_bslice rfl 40 1 _ rfl rfl (run_bslice W0 40 44 ti _ 34 Try.underlying40 hin hz0 hz1 rfl V hVl (by decide) (by decide)) ?_
          refine hK.out _ _ trivial (fun _ => ?_); clear hK K
          refine F_alloc (F := fun W => wpAnyH _ _ _ _ _ _ _ _ W) V rfl ?_
          intro W6 hx6 hb6
          have hr6 : IsR LF W6 (.slice (some ⟨W0.heap.size, 0, none⟩) 1 1) [f] := IsR.ofBox hx6 (HF2.out.symm) rfl (by decide)
          have hO6 := ownR_below hO0 hb6; have hB6 := below_thru hB0 hb6; have hs6 := hB6.size
          refine wpAnyH_ready (rs := [3]) (by kernel_rfl) (by simp) (AllReadyH.cons rfl (fun K hK => ?_) AllReadyH.nil)
          refine step_append_rows rfl LF _ _ 40 rfl w.heap.size 44 ti (.agg Fd.zero.v.toArray) 34 48 rfl Try.underlying40 hin hz0 hz1 hz2 rfl _ k _ rfl hO6 _ [f] rfl hr6 (by unfold maxLen; simp; omega) (by simp; omega) hs6 ?_
          intro v7 W7 hO7 hg7
          have hB7 := hB6.trans hg7
          refine hK.out _ _ trivial (fun _ => ?_); clear hK K
          refine takeH 7 8 (v := ?vr7_8) rfl (by rfl) (by kernel_rfl) (by kernel_rfl) (by kernel_rfl) (fun _ _ _ h => h) (Or.inl ⟨by rfl, ?_⟩) (trivial) ?_
          rotate_left
          · intro wq hSq
            go_simp
            exact rfl
          try simp only [Act.put, List.setIfInBounds_toArray]
          refine takeH 8 1 (v := ?vr8_9) rfl (by rfl) (by kernel_rfl) (by kernel_rfl) (by kernel_rfl) (fun _ _ _ h => h) (Or.inl ⟨by rfl, ?_⟩) (trivial) ?_
          rotate_left
          · intro wq hSq
            go_simp
            exact rfl
          try simp only [Act.put]
          refine wpAnyH_done (by kernel_rfl) ?_ _
          go_wp2_with fail
          go_roundw
          case rel => exact ⟨k + 1, fs ++ [f], rest.drop n, by go_num, by omega, by simp [hfk], HRD2, Lib.hid (by rw [HF1.out]; exact hO7), Lib.hid (HD.out _ _ _ _ HL.out rfl rfl rfl), hB7⟩
          case measure => simp [intOf]; omega

        · rw [y2]
          have HX := Lib.hid (fir_none HK.out (HNO.out y1))
          clear y1 y2
          go_wp2_with fail
          go_returns
          refine ⟨_, _, ret3 HX.out.1.symm, ?_, ?_, hB6⟩
          · rw [HX.out.2.1]; exact ownF_nil
          · rw [HX.out.2.2]; exact IsL.none

end Go.Proofs.Ytlbbedknldmcpaa
