/-
  FieldReads, walked.
-/
import Derived.Test.YtpjonhfphfkdiaaAlive07
namespace Go.Proofs.Ytpjonhfphfkdiaa
open Go.RowKit

theorem own_same {w w' : World} {B e s n : Nat} {v : Value} {l : List Value} (h : w.ownsRow B e s v n l) (hb : ∀ k, B ≤ k → w'.heap[k]? = w.heap[k]?) : w'.ownsRow B e s v n l := by
  obtain ⟨h1, h2 | ⟨g, cap, cur, h3, hg, h4, h5⟩⟩ := h
  · exact ⟨h1, .inl h2⟩
  · exact ⟨h1, .inr ⟨g, cap, cur, h3, hg, by rw [hb g hg]; exact h4, h5⟩⟩
/-- The cells of a row of the call's own that are written. -/
def Cells (w : World) (g n : Nat) : Prop := ∀ i, i < n → (∃ x, w.cell? ⟨g, i, none⟩ = some (.int .u8 x)) ∧ w.frozen? ⟨g, i, none⟩ = false
theorem Cells.below {w w' : World} {g n : Nat} (h : Cells w g n) (hb : Below w.heap.size w w') : Cells w' g n := fun i hi => by
  obtain ⟨⟨x, hx⟩, hf⟩ := h i hi
  exact ⟨⟨x, cell_below hb hx⟩, frozen_below hb hx hf⟩
theorem Cells.set {w : World} {g n j : Nat} (h : Cells w g n) (hj : j < n) (y : Int) : Cells (w.setCell ⟨g, j, none⟩ (.int .u8 y)) g n := fun i hi => by
  obtain ⟨⟨x, hx⟩, hf⟩ := h i hi
  refine ⟨?_, by rw [World.frozen?_setCell]; exact hf⟩
  by_cases q : i = j
  · subst q
    exact ⟨y, World.cell?_setCell_same _ _ _ hx⟩
  · exact ⟨x, by rw [World.cell?_setCell_other _ _ _ _ (by intro e; cases e; exact q rfl)]; exact hx⟩
theorem own_cells {w : World} {B n : Nat} {v : Value} {xs : List Int} (h : w.ownsRow B 5 1 v n (xs.map (Value.int .u8))) (hn : n = xs.length) :
    ∃ (a : Option Addr) (c g : Nat), v = .slice a n c ∧ n ≤ c ∧ c ≤ 9223372036854775807 ∧ (0 < n → a = some ⟨g, 0, none⟩ ∧ g < w.heap.size ∧ B ≤ g) ∧ Cells w g n := by
  subst hn
  obtain ⟨_, ⟨rfl, h0⟩ | ⟨g, cap, cur, rfl, hg, hb, hn, hm, hs, ht⟩⟩ := h
  · exact ⟨none, 0, 0, by rw [h0], by omega, by omega, fun q => by omega, fun i hi => by omega⟩
  · have hlt : g < w.heap.size := by
      rcases Nat.lt_or_ge g w.heap.size with q | q
      · exact q
      · rw [Array.getElem?_eq_none q] at hb; cases hb
    refine ⟨some ⟨g, 0, none⟩, cap, g, rfl, hn, by unfold maxLen at hm; omega, fun _ => ⟨rfl, hlt, hg⟩, fun i hi => ⟨⟨nth xs i, ?_⟩, ?_⟩⟩
    · rw [World.cell?]
      simp only [hb]
      have e1 : cur[i]? = (cur.toList.take (xs.length * 1))[i]? := by
        rw [List.getElem?_take_of_lt (by omega), Array.getElem?_toList]
      rw [e1, ht]
      exact nth_at' i hi
    · simp [World.frozen?, hb]

set_option maxRecDepth 100000 in
set_option maxHeartbeats 3200000 in
theorem reads_is {v u : Value} {ks bs : List Int} (w : World) (h1 : IsL w .u8 v ks) (h2 : IsL w .u8 u bs) (hkb : Byts ks) (hbb : Byts bs) : Calls Try.prog 5 #[v, u] w fun e w' => e = .returned (.bool true) ∧ Below w.heap.size w w' := by
  obtain ⟨a0, c0, rfl, hr, _⟩ := id h1
  have i1 := hr.room
  have i2 := hr.most
  obtain ⟨a1, c1, rfl, hr1, _⟩ := id h2
  have j1 := hr1.room
  have j2 := hr1.most
  clear hr hr1
  by_cases hl : 60 < ks.length
  · have d1 : decide ((60 : Int) < (ks.length : Int)) = true := decide_eq_true (by omega)
    clear hl h1 h2
    go_enter Try.func5, Try.ntmps5
    go_wp2_with fail
    go_returns
    exact ⟨rfl, Below.refl _ _⟩
  have d1 : decide ((60 : Int) < (ks.length : Int)) = false := decide_eq_false (by omega)
  by_cases hm : 1500 < bs.length
  · have d2 : decide ((1500 : Int) < (bs.length : Int)) = true := decide_eq_true (by omega)
    clear hl hm h1 h2
    go_enter Try.func5, Try.ntmps5
    go_wp2_with fail
    go_returns
    exact ⟨rfl, Below.refl _ _⟩
  have d2 : decide ((1500 : Int) < (bs.length : Int)) = false := decide_eq_false (by omega)
  have HK := Lib.hid h1
  have HB := Lib.hid h2
  have hbl : bs.length ≤ 4000 := by omega
  obtain ⟨ti, hin, hz0, hz1, hz2⟩ := info_parts info_u8'
  have A := fun (W : World) (a b : Value) (h1 : IsL W .u8 a ks) (h2 : IsL W .u8 b bs) => read_is W h1 h2 hkb hbb
  have B := fun (W : World) (a b : Value) (h1 : IsL W .u8 a ks) (h2 : IsL W .u8 b bs) => rread_is W h1 h2 hkb hbb hbl
  have C := fun (W : World) (a b : Value) (h1 : IsL W .u8 a ks) (h2 : IsL W .u8 b bs) => first_is W h1 h2 hkb hbb hbl
  have D := fun (W : World) (a b : Value) (h1 : IsL W .u8 a ks) (h2 : IsL W .u8 b bs) => rfirst_is W h1 h2 hkb hbb hbl
  obtain ⟨F, hF⟩ : ∃ F, reaF ks bs = F := ⟨_, rfl⟩
  obtain ⟨E, hE⟩ : ∃ E, reaE ks bs = E := ⟨_, rfl⟩
  obtain ⟨G, hG⟩ : ∃ G, firF ks bs = G := ⟨_, rfl⟩
  obtain ⟨R, hR⟩ : ∃ R, firR ks bs = R := ⟨_, rfl⟩
  obtain ⟨M, hM⟩ : ∃ M, firE ks bs = M := ⟨_, rfl⟩
  rw [hF, hE] at A B
  rw [hG, hR, hM] at C D
  clear h1 h2 hkb hbb hF hE hG hR hM hl
  go_enter Try.func5, Try.ntmps5
  go_upto_region 4 with (at_builtin; refine wpList_append_built rfl _ _ 33 rfl 5 ti (.int .u8 0) 1 .u8 Try.underlying33 hin hz0 hz1 hz2 rfl [] bs _ (.slice a1 bs.length c1) _ _ _ rfl rfl rfl rfl rfl rfl HB.out (by unfold maxLen; simp; omega) (by simp; omega) ?_; intro v5 w5 ho5 hb5)
  obtain ⟨a5, c5, g, rfl, k1, k2, hg, hC5⟩ := own_cells ho5 rfl
  have hl5 : IsL w5 .u8 (.slice a5 ([] ++ bs).length c5) bs := IsL.own ho5 rfl
  rw [List.nil_append] at hl5 hC5 hg k1
  have HL5 := Lib.hid hl5
  have HG := Lib.hid hg
  have HC5 := Lib.hid hC5
  have HK5 := Lib.hid (HK.out.below hb5)
  have HB5 := Lib.hid (HB.out.below hb5)
  have hs5 := hb5.size
  clear hl5 hg hC5 ho5 HK HB
  go_wp2_with fail
  refine (A _ _ _ HK5.out HL5.out).mono ?_
  rintro e w6 ⟨v6, rfl, ho6, hb6⟩
  go_wp2_with fail
  refine (B _ _ _ (HK5.out.below hb6) (HB5.out.below hb6)).mono ?_
  rintro e w7 ⟨v7, rfl, ho7, hb7⟩
  have hg7 := below_thru hb6 hb7
  go_wp2_with fail
  refine (C _ _ _ (HK5.out.below hg7) (HL5.out.below hg7)).mono ?_
  rintro e w8 ⟨v8, u8', rfl, ho8, hr8, hb8⟩
  have hg8 := below_thru hg7 hb8
  go_wp2_with fail
  refine (D _ _ _ (HK5.out.below hg8) (HB5.out.below hg8)).mono ?_
  rintro e w9 ⟨v9, u9', rfl, ho9, hr9, hb9⟩
  have hg9 := below_thru hg8 hb9
  have q6 := Lib.hid (ownR_below ho6 (below_thru (below_thru hb7 hb8) hb9))
  have q7 := Lib.hid (ownR_base (ownR_below ho7 (below_thru hb8 hb9)) hb6.size)
  have q8 := Lib.hid (ownR_base (ownR_below ho8 hb9) hg7.size)
  have p8 := Lib.hid (ownR_base (ownR_below hr8 hb9) hg7.size)
  have q9 := Lib.hid (ownR_base ho9 hg8.size)
  have p9 := Lib.hid (ownR_base hr9 hg8.size)
  have hC9 := Lib.hid (HC5.out.below hg9)
  have hB9 := below_thru hb5 hg9
  have hX9 := Lib.hid hg9.size
  clear A B C D ho6 ho7 ho8 hr8 ho9 hr9 hb6 hb7 hb8 hb9 hg7 hg8 HK5 HB5 HL5 HC5 hg9
  go_wp2_with fail
  clear d1 d2
  go_loopw [16] (fun s16 wr => ∃ j : Nat, s16 = .int .i64 j ∧ j ≤ bs.length ∧ Hid (Cells wr g bs.length) ∧ Hid (∀ k, (bs.length = 0 ∨ k ≠ g) → wr.heap[k]? = w9.heap[k]?) ∧ Below w.heap.size w wr) (fun s16 _ => bs.length - (intOf s16).toNat)
  case atStart => exact ⟨0, rfl, by omega, hC9, Lib.hid (fun _ _ => rfl), hB9⟩
  case round =>
    clear hC9 hB9
    obtain ⟨j, rfl, hj, HC, HS, hB⟩ := hrel
    have hs := hB.size
    by_cases hlt : j < bs.length
    case pos =>
      obtain ⟨rfl, hgl, hgw⟩ := HG.out (by omega)
      obtain ⟨⟨x, hx⟩, hf⟩ := HC.out j hlt
      have hz := lt_of_cell hx
      have HS2 := Lib.hid (fun (y : Int) (k : Nat) (h : bs.length = 0 ∨ k ≠ g) => (show (wr.setCell ⟨g, j, none⟩ (.int .u8 y)).heap[k]? = w9.heap[k]? by
        rw [heap_setCell_other wr ⟨g, j, none⟩ k _ (by rcases h with q | q; exact absurd q (by omega); exact q)]
        exact HS.out k h))
      have HC2 := Lib.hid (fun (y : Int) => HC.out.set hlt y)
      have hB2 := Lib.hid (fun (y : Int) => hB.setCell (p := ⟨g, j, none⟩) hgw (.int .u8 y))
      clear HS HC
      go_wp2_with fail
      go_roundw
      case rel => exact ⟨j + 1, by go_num, by omega, Lib.hid (HC2.out _), Lib.hid (HS2.out _), hB2.out _⟩
      case measure => simp [intOf]; omega
    case neg =>
      have hk : ∀ k, w5.heap.size ≤ k → wr.heap[k]? = w9.heap[k]? := fun k hk => HS.out k (by
        rcases Nat.eq_zero_or_pos bs.length with q | q
        · exact Or.inl q
        · have := (HG.out q).2.1
          exact Or.inr (by omega))
      have f6 := Lib.hid (IsR.own (own_same q6.out hk) rfl rfl)
      have f7 := Lib.hid (IsR.own (own_same q7.out hk) rfl rfl)
      have f8 := Lib.hid (IsR.own (own_same q8.out hk) rfl rfl)
      have f9 := Lib.hid (IsR.own (own_same q9.out hk) rfl rfl)
      have e8 := Lib.hid (IsL.own (own_same p8.out hk) rfl)
      have e9 := Lib.hid (IsL.own (own_same p9.out hk) rfl)
      clear q6 q7 q8 q9 p8 p9 hk
      have S1 := fun (W : World) (a b : Value) (h1 : IsR LF W a F) (h2 : IsR LF W b F) => rsame_is W h1 h2
      have S2 := fun (W : World) (a b : Value) (h1 : IsR LF W a G) (h2 : IsR LF W b G) => rsame_is W h1 h2
      rw [show sameF F F = true from decide_eq_true rfl] at S1
      rw [show sameF G G = true from decide_eq_true rfl] at S2
      go_wp2_with fail
      refine (S1 _ _ _ f6.out f7.out).mono ?_
      rintro e x1 ⟨rfl, y1⟩
      go_wp2_with fail
      refine (S2 _ _ _ (f8.out.below y1) (f9.out.below y1)).mono ?_
      rintro e x2 ⟨rfl, y2⟩
      have y12 := below_thru y1 y2
      go_wp2_with fail
      refine (sameb_tt _ (e8.out.below y12) (e9.out.below y12)).mono ?_
      rintro e x3 ⟨rfl, y3⟩
      have hB3 := below_thru hB (below_thru y12 y3)
      go_wp2_with fail
      go_returns
      exact ⟨rfl, hB3⟩

end Go.Proofs.Ytpjonhfphfkdiaa
