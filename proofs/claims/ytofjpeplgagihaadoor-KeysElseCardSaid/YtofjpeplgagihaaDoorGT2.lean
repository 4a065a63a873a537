/-
  append(row, make([]byte, k)...) onto a row of the call's own.
  slices.Grow of a nil row, slices.Concat of rows of bytes, walked.
  Package token, walked: split.
  Package token, walked: Write, Read.
  Package token, walked: Read.
-/
import Derived.Test.YtofjpeplgagihaaDoorGB1
import Derived.Test.YtofjpeplgagihaaDoorGF2
import Derived.Test.YtofjpeplgagihaaDoorGT1
import Derived.Lib.AppendZerosOnto
import Derived.Lib.SliceRun

namespace Go.Proofs.YtofjpeplgagihaaDoor
open Go.RowKit

theorem zeroCells_one (z : Value) (k : Nat) : Builtin.zeroCells #[z] k = (List.replicate k z).toArray := by
  apply Array.ext
  · simp [Builtin.zeroCells]
  · intro i h1 h2
    simp [Builtin.zeroCells, Nat.mod_one]
theorem run_append_zeros {P : Program} (w : World) (base : Nat) (t tn ty e : TypeId) (i : TypeInfo) (z : Value) (kq kn : IntKind) (ht : P.underlying t = some (.slice e)) (htn : P.underlying tn = some (.int kn)) (hi : P.info? e = some i) (hz : i.zero = some z)
    (hsize : i.size = 1) (hby : i.bytes = 1) (hzs : z.cells = #[z]) (h1z : z.oneCell' = true) (v : Value) (n : Nat) (xs : List Value) (hown : w.ownsRow base e 1 v n xs) (k : Nat) (hk : n + k ≤ 1000000) (hbase : base ≤ w.heap.size) :
    ∃ v' w', (Builtin.append_ #[t, tn] ty #[v, .int kq k]).run P w = .ok v' w' ∧ w'.ownsRow base e 1 v' (n + k) (xs ++ List.replicate k z) ∧ w.grownBy w' v.ownBlock := by
  have hw : IntKind.i64.wrap (k : Int) = k := by rw [IntKind.wrap_i64]; omega
  have hneg : ¬ ((k : Int) < 0) := by omega
  have h48i : ¬ (281474976710656 < (k : Int) * 1) := by omega
  have h48j : ¬ (281474976710656 < (k : Int)) := by omega
  have hlen : (xs ++ List.replicate k z).length = (n + k) * 1 := by rw [List.length_append, hown.1, List.length_replicate]; omega
  have hm63 : n + k ≤ maxLen := by unfold maxLen; omega
  have grown : ∀ (old : Nat) (row : Option Nat),
      (w.drew.alloc (.cells (xs.toArray ++ Builtin.zeroCells z.cells k ++ Builtin.zeroCells z.cells (grownCap w (n + k) old e - (n + k))) e)).ownsRow base e 1
        (.slice (some ⟨w.heap.size, 0, none⟩) (n + k) (grownCap w (n + k) old e)) (n + k) (xs ++ List.replicate k z) ∧
      w.grownBy (w.drew.alloc (.cells (xs.toArray ++ Builtin.zeroCells z.cells k ++ Builtin.zeroCells z.cells (grownCap w (n + k) old e - (n + k))) e)) row := by
    intro old row
    have hge := grownCap_ge w (n + k) old e
    have hcm : grownCap w (n + k) old e ≤ maxLen := grownCap_le_maxLen w (n + k) old e hm63
    rw [hzs, zeroCells_one, zeroCells_one]
    refine ⟨⟨hlen, .inr ⟨w.heap.size, _, _, rfl, hbase, heap_alloc_new w.drew _, hge, hcm, ?_, ?_⟩⟩, ⟨rfl, rfl, rfl, by simp, fun k hk _ => heap_alloc_old w.drew _ hk⟩⟩
    · have := hown.1
      simp only [Array.size_append, List.size_toArray, List.length_replicate]
      omega
    · simp only [Array.toList_append]
      rw [← hlen]
      exact List.take_left
  rcases hown.2 with ⟨rfl, rfl⟩ | ⟨g, cap, cur, rfl, hbg, hg, hnc, hcm, hcs, htake⟩
  · have hx : xs = [] := List.eq_nil_of_length_eq_zero (by simpa using hown.1)
    subst hx
    by_cases hk0 : k = 0
    · subst hk0
      refine ⟨.slice none 0 0, w, ?_, World.ownsRow_nil w base e 1, ⟨rfl, rfl, rfl, Nat.le_refl _, fun _ _ _ => rfl⟩⟩
      simp [Builtin.append_, run_underlying ht, run_underlying htn, sizeOf, typeInfo, hi, asInt, asIntOf, show IntKind.i64.wrap 0 = 0 from rfl]
    · have hr := Lib.run_append_nil_zeros (P := P) w t tn ty e i z kq kn ht htn hi hz k (by omega) (by omega) (by omega) (by rw [hby]; omega)
      have hgr := grown 0 (Value.ownBlock (.slice none 0 0))
      simp only [Nat.zero_add, List.nil_append, Array.empty_append] at hgr ⊢
      exact ⟨_, _, hr, hgr.1, hgr.2⟩
  · by_cases hroom : n + k ≤ cap
    · by_cases hk0 : k = 0
      · subst hk0
        refine ⟨.slice (some ⟨g, 0, none⟩) (n + 0) cap, w, ?_, by simpa using hown, ⟨rfl, rfl, rfl, Nat.le_refl _, fun _ _ _ => rfl⟩⟩
        simp [Builtin.append_, run_underlying ht, run_underlying htn, sizeOf, typeInfo, hi, asInt, asIntOf, show IntKind.i64.wrap 0 = 0 from rfl, hnc, storeCells]
      · have hfit : n + 0 + (List.replicate k z).length ≤ cur.size := by rw [List.length_replicate, hcs]; omega
        have hst := run_storeCells_at P g n e (List.replicate k z) 0 cur w hg hfit (fun u hu => by obtain ⟨_, rfl⟩ := List.mem_replicate.1 hu; exact h1z)
        rw [Nat.add_zero] at hst
        refine ⟨.slice (some ⟨g, 0, none⟩) (n + k) cap, _, ?_, ⟨hlen, .inr ⟨g, cap, _, rfl, hbg, setRow_heap w g cur (cur.toList.take n ++ List.replicate k z ++ cur.toList.drop (n + (List.replicate k z).length)).toArray e _ hg, hroom, hcm, ?_, ?_⟩⟩, ⟨rfl, rfl, rfl, by simp, fun k _ hk => setRow_other w g k _ (fun e => hk (by simp [Value.ownBlock, e]))⟩⟩
        · have hadd : (⟨g, 0, none⟩ : Addr).add n = ⟨g, n, none⟩ := by rw [Go.WideShapes.add_plain, Nat.zero_add]
          simp [Builtin.append_, run_underlying ht, run_underlying htn, sizeOf, typeInfo, zeroValue, hi, hz, hsize, hby, asInt, asIntOf, hw, hneg, h48j, hk0, hroom, hzs, zeroCells_one, hadd]
          rw [hst]
          simp
        · simp only [List.size_toArray, List.length_append, List.length_take, List.length_drop, Array.length_toList, List.length_replicate]
          omega
        · rw [show cur.toList.take n = xs by rw [← htake, Nat.mul_one], ← hlen]
          exact List.take_left
    · have hold : (Builtin.firstCells i.size n (.slice (some ⟨g, 0, none⟩) n cap)).run P w.drew = .ok xs.toArray w.drew := by
        have hl := run_loadCells_list (P := P) w.drew ⟨g, 0, none⟩ xs (fun j u hu => hown.cells (g := g) rfl j u hu)
        rw [hown.1] at hl
        simpa [Builtin.firstCells, hsize] using hl
      have hr := Lib.run_append_grow_zeros (P := P) w t tn ty e i z kq kn ht htn hi hz (some ⟨g, 0, none⟩) n cap xs hold k (by omega) (by omega) (by omega) (by omega) (by rw [hby]; omega) (by rw [hby]; exact growslice_fits (by omega) (by omega))
      have hgr := grown cap (Value.ownBlock (.slice (some ⟨g, 0, none⟩) n cap))
      exact ⟨_, _, hr, hgr.1, hgr.2⟩
theorem wpList_append_zeros {P : Program} {w : World} {ops : Array Oper} {rest : List Oper} {o : Oper} {a : Act} {Q : Exit → Act → World → Prop} (hgd : o.guard = none) (s x : Operand) (t tn : TypeId)
    (ho : o.op = .call { callee := .builtin .append, args := #[s, x], argTypes := #[t, tn] }) (base : Nat) (e : TypeId) (i : TypeInfo) (z : Value) (kq kn : IntKind) (ht : P.underlying t = some (.slice e)) (htn : P.underlying tn = some (.int kn)) (hi : P.info? e = some i) (hz : i.zero = some z)
    (hsize : i.size = 1) (hby : i.bytes = 1) (hzs : z.cells = #[z]) (h1z : z.oneCell' = true) (v : Value) (n : Nat) (xs : List Value) (k : Nat) (hs : a.eval s = v) (hx : a.eval x = .int kq (k : Int)) (hown : w.ownsRow base e 1 v n xs) (hk : n + k ≤ 1000000) (hbase : base ≤ w.heap.size)
    (h : ∀ v' w', w'.ownsRow base e 1 v' (n + k) (xs ++ List.replicate k z) → w.grownBy w' v.ownBlock → wpList P ops Q rest (a.put o.dst v') w') : wpList P ops Q (o :: rest) a w := by
  obtain ⟨v', w', hr, h2, h3⟩ := run_append_zeros (P := P) w base t tn o.type e i z kq kn ht htn hi hz hsize hby hzs h1z v n xs hown k hk hbase
  exact Lib.wpList_append_run w hgd s x t tn ho _ _ hs hx v' w' hr (h v' w' h2 h3)

end Go.Proofs.YtofjpeplgagihaaDoor

namespace Go.Proofs.YtofjpeplgagihaaDoor
open Go.RowKit

theorem own_cut {w : World} {B e n g cap : Nat} {l : List Value} (h : w.ownsRow B e 1 (.slice (some ⟨g, 0, none⟩) n cap) n l) : w.ownsRow B e 1 (.slice (some ⟨g, 0, none⟩) 0 cap) ([] : List Int).length (([] : List Int).map (Value.int .u8)) := by
  obtain ⟨_, ⟨h1, _⟩ | ⟨g', cap', cur, h1, hb, hg, h2, h3, h4, h5⟩⟩ := h
  · cases h1
  · injection h1 with e1 e2 e3
    cases e1
    subst e3
    exact ⟨rfl, .inr ⟨g, cap, cur, rfl, hb, hg, Nat.zero_le _, h3, h4, by simp⟩⟩

set_option maxRecDepth 100000 in
set_option maxHeartbeats 1600000 in
theorem grow_is (n : Nat) (hn : n ≤ 100000) (w : World) : Calls Tryd.prog 85 #[.slice none 0 0, .int .i64 n] w (GivesOwn [] w) := by
  obtain ⟨ti, hin, hz0, hz1, hz2⟩ := info_parts info_u8'
  have i0 : (0 : Int) ≤ (n : Int) := by omega
  by_cases h0 : n = 0
  · subst h0
    have d1 : decide (((0 : Nat) : Int) > 0) = false := by decide
    go_enter Tryd.func85, Tryd.ntmps85
    go_wp2_with fail
    go_returns
    exact ⟨_, rfl, ownU_nil, Below.refl _ _⟩
  · have i1 : (0 : Int) < (n : Int) := by omega
    go_enter Tryd.func85, Tryd.ntmps85
    go_wp2_with (at_builtin; refine wpList_append_zeros rfl _ _ 62 3 rfl w.heap.size 5 ti (.int .u8 0) .i64 .i64 Tryd.underlying62 Tryd.underlying3 hin hz0 hz1 hz2 rfl rfl (.slice none 0 0) 0 [] n rfl rfl ownU_nil (by omega) (Nat.le_refl _) ?_; intro va wa hoa hga)
    have hB : Below w.heap.size w wa := (Below.refl _ w).grown hga (Nat.le_refl _) (by intro k hk; cases hk)
    obtain ⟨aa, ca, rfl, hl1, hl2⟩ : ∃ g c, va = .slice (some ⟨g, 0, none⟩) n c ∧ n ≤ c ∧ c ≤ 9223372036854775807 := by
      rcases hoa.2 with ⟨h', q⟩ | ⟨g', cap', cur, h', _, _, q1, q2, _⟩
      · omega
      · exact ⟨g', cap', by simpa using h', by omega, by unfold maxLen at q2; omega⟩
    have hoc := own_cut (n := n) (l := [] ++ List.replicate n (.int .u8 0)) (by simpa using hoa)
    clear hoa hga
    have q1 : ¬ ((ca : Int) < 0) := by omega
    have q2 : (0 : Int) ≤ (ca : Int) := by omega
    go_wp2_with fail
    go_returns
    exact ⟨_, rfl, hoc, hB⟩

theorem flat_take_succ (xss : List (List Int)) (k : Nat) (h : k < xss.length) : (xss.take (k + 1)).flatten = (xss.take k).flatten ++ xss[k] := by
  rw [List.take_succ_eq_append_getElem h, List.flatten_append]
  simp
theorem flat_take_le (xss : List (List Int)) (k : Nat) : (xss.take k).flatten.length ≤ xss.flatten.length := by
  conv => rhs; rw [← List.take_append_drop k xss]
  rw [List.flatten_append, List.length_append]
  omega

set_option maxRecDepth 100000 in
set_option maxHeartbeats 1600000 in
theorem concat_is {b n : Nat} {vs : List Value} {xss : List (List Int)} (w : World) (hb : Box w b vs) (hL : ∀ (i : Nat) (v : Value) (xs : List Int), vs[i]? = some v → xss[i]? = some xs → IsL w .u8 v xs) (hv : n = vs.length) (hx : n = xss.length) (hn : n ≤ 1000) (hs : xss.flatten.length ≤ 100000) :
    Calls Tryd.prog 75 #[.slice (some ⟨b, 0, none⟩) n n] w (GivesOwn xss.flatten w) := by
  obtain ⟨ti, hin, hz0, hz1, hz2⟩ := info_parts info_u8'
  have HL := Lib.hid hL
  have HV := Lib.hid hv
  have HX := Lib.hid hx
  have HT := fun k => flat_take_le xss k
  have HS := Lib.hid (flat_take_succ xss)
  have zb := hb.lt
  clear hL hv hx
  go_enter Tryd.func75, Tryd.ntmps75
  go_wp2_with fail
  go_loopw [3, 11] (fun s3 s11 wr => ∃ k : Nat, s11 = .int .i64 k ∧ s3 = .int .i64 ((xss.take k).flatten.length : Nat) ∧ k ≤ n ∧ Below w.heap.size w wr) (fun _ s11 _ => n - (intOf s11).toNat)
  case atStart => exact ⟨0, rfl, rfl, by omega, Below.refl _ _⟩
  case round =>
    obtain ⟨k, rfl, rfl, hk, hB⟩ := hrel
    have hs0 := hB.size
    by_cases hlt : k < n
    case pos =>
      obtain ⟨v, hve⟩ : ∃ v, vs[k]? = some v := ⟨_, List.getElem?_eq_getElem (by have := HV.out; omega)⟩
      have hkx : k < xss.length := by have := HX.out; omega
      have hl1 := HL.out k v _ hve (List.getElem?_eq_getElem hkx)
      have ht := HS.out k hkx
      have c1 := cell_below hB (hb.c k v hve)
      obtain ⟨xs, hxs⟩ : ∃ xs, xss[k] = xs := ⟨_, rfl⟩
      rw [hxs] at hl1 ht
      obtain ⟨av, cv, rfl, hi, _⟩ := hl1
      have hi1 := hi.room
      have hi2 := hi.most
      have hle := HT (k + 1)
      rw [ht, List.length_append] at hle
      have HE := Lib.hid (show (((xss.take (k + 1)).flatten.length : Nat) : Int) = ((xss.take k).flatten.length : Nat) + (xs.length : Nat) by rw [ht, List.length_append]; omega)
      obtain ⟨S, hS⟩ : ∃ S, (xss.take k).flatten.length = S := ⟨_, rfl⟩
      rw [hS] at hle HE ⊢
      have zr := lt_of_cell c1
      clear hve hxs hi ht hS
      have i0 : (0 : Int) ≤ (S : Int) := by omega
      have i1 : (0 : Int) ≤ (xs.length : Int) := by omega
      have i3 : (S : Int) + (xs.length : Int) ≤ 100000 := by omega
      have i4 : (k : Int) < (n : Int) := by omega
      have i5 : decide ((S : Int) + (xs.length : Int) < 0) = false := decide_eq_false (by omega)
      go_wp2_with fail
      go_roundw
      case rel => exact ⟨k + 1, by go_num, by rw [HE.out], by omega, hB⟩
      case measure => simp [intOf]; omega
    case neg =>
      obtain rfl : k = n := by omega
      have HK := Lib.hid (show xss.take k = xss from List.take_of_length_le (by have := HX.out; omega))
      rw [HK.out]
      obtain ⟨S, hS⟩ : ∃ S, xss.flatten.length = S := ⟨_, rfl⟩
      rw [hS] at hs ⊢
      have HSS := Lib.hid hS
      clear hS
      go_wp2_with fail
      refine (grow_is S hs _).mono ?_
      rintro e w1 ⟨v1, rfl, ho1, hb1⟩
      have hB1 := below_thru hB hb1
      have ho2 := ownR_base ho1 hB.size
      clear ho1 hb1
      go_wp2_with fail
      go_loopw [6, 27] (fun s6 s27 wr => ∃ j m : Nat, s27 = .int .i64 j ∧ j ≤ k ∧ Hid (wr.ownsRow w.heap.size 5 1 s6 m ((xss.take j).flatten.map (Value.int .u8))) ∧ Hid (m = (xss.take j).flatten.length) ∧ Below w.heap.size w wr) (fun _ s27 _ => k - (intOf s27).toNat)
      case atStart => exact ⟨0, 0, rfl, by omega, Lib.hid ho2, Lib.hid rfl, hB1⟩
      case round =>
        clear hB1 ho2 hB hs0
        obtain ⟨j, m, rfl, hj, HO, HM, hB⟩ := hrel
        have hs2 := hB.size
        by_cases hlt2 : j < k
        case pos =>
          obtain ⟨v, hve⟩ : ∃ v, vs[j]? = some v := ⟨_, List.getElem?_eq_getElem (by have := HV.out; omega)⟩
          have hkx : j < xss.length := by have := HX.out; omega
          have hl1 := (HL.out j v _ hve (List.getElem?_eq_getElem hkx)).below hB
          have ht := HS.out j hkx
          have c1 := cell_below hB (hb.c j v hve)
          have hle := HT (j + 1)
          obtain ⟨xs, hxs⟩ : ∃ xs, xss[j] = xs := ⟨_, rfl⟩
          rw [hxs] at hl1 ht
          rw [ht, List.length_append, HSS.out, ← HM.out] at hle
          have HT2 := Lib.hid ht
          obtain ⟨av, cv, rfl, hi, h0⟩ := hl1
          have zr := lt_of_cell c1
          have i4 : (j : Int) < (k : Int) := by omega
          clear hve hxs ht hkx
          go_wp2_with (at_builtin; refine wpList_append_ints rfl _ _ 62 rfl w.heap.size 5 ti (.int .u8 0) 1 .u8 Tryd.underlying62 hin hz0 hz1 hz2 rfl _ m _ rfl HO.out av cv xs rfl hi h0 (by unfold maxLen; omega) (by omega) hs2 ?_; intro v4 w4 hown4 hgrow4)
          have hB4 := hB.grown hgrow4 hs2 (own_block HO.out)
          have HO4 : Hid (w4.ownsRow w.heap.size 5 1 v4 (m + xs.length) ((xss.take (j + 1)).flatten.map (Value.int .u8))) := Lib.hid (by rw [HT2.out, List.map_append]; exact hown4)
          have HM4 : Hid (m + xs.length = (xss.take (j + 1)).flatten.length) := Lib.hid (by rw [HT2.out, List.length_append, ← HM.out])
          clear hown4 hgrow4 HO hi h0
          go_wp2_with fail
          go_roundw
          case rel => exact ⟨j + 1, m + xs.length, by go_num, by omega, HO4, HM4, hB4⟩
          case measure => simp [intOf]; omega
        case neg =>
          obtain rfl : j = k := by omega
          go_wp2_with fail
          go_returns
          refine ⟨_, rfl, ?_, hB⟩
          have h1 := HO.out
          rw [HK.out] at h1
          have h2 := HM.out
          rw [HK.out] at h2
          rwa [h2] at h1

end Go.Proofs.YtofjpeplgagihaaDoor

namespace Go.Proofs.YtofjpeplgagihaaDoor
open Go.RowKit

/-- Two rows, which read so in a world, whatever world that is. -/
def GivesTwo (xs ys : List Int) (y w : World) (e : Ending) (w' : World) : Prop := ∃ v u, e = .returned (.tuple #[v, u]) ∧ IsL y .u8 v xs ∧ IsL y .u8 u ys ∧ Below w.heap.size w w'
theorem IsL.recap {w : World} {k : IntKind} {b off n c : Nat} {xs : List Int} (h : IsL w k (.slice (some ⟨b, off, Option.none⟩) n c) xs) {a' : Option Addr} {m : Nat} (hm : m ≤ xs.length) (ha : a' = some ⟨b, off, Option.none⟩) : IsL w k (.slice a' m m) (xs.take m) := by
  subst ha
  obtain ⟨a0, c0, e, hi, _⟩ := h.taken hm
  injection e with e1 e2 e3
  subst e1 e3
  have l1 : (xs.take m).length = m := by rw [List.length_take]; omega
  have q1 := hi.room
  have q2 := hi.most
  exact ⟨_, m, by rw [l1], ⟨by omega, by omega, hi.cells⟩, fun q => by cases q⟩
theorem IsL.empty {w : World} {k : IntKind} {a : Option Addr} {c : Nat} (h : c ≤ 9223372036854775807) (h0 : a = Option.none → c = 0) : IsL w k (.slice a 0 c) [] := ⟨a, c, rfl, ⟨Nat.zero_le _, h, fun q => absurd q (by simp)⟩, h0⟩

end Go.Proofs.YtofjpeplgagihaaDoor

namespace Go.Proofs.YtofjpeplgagihaaDoor
open Go.RowKit

theorem Box.isl {w : World} {b : Nat} {k : IntKind} {xs : List Int} (n : Nat) (hn : xs.length = n) (h : Box w b (xs.map (Value.int k))) (hl : n ≤ 1000000) : IsL w k (.slice (some ⟨b, 0, Option.none⟩) n n) xs := IsL.boxed n hn h hl

end Go.Proofs.YtofjpeplgagihaaDoor

namespace Go.Proofs.YtofjpeplgagihaaDoor
open Go.RowKit

/-- Bytes of a token's length are those of a token. -/
theorem tok_of_bytes {bs : List Int} (hl : bs.length = 52) (hb : Byts bs) : ∃ (k : Nums) (g : List Int), bs = k.msg ++ g ∧ g.length = 32 ∧ Byts g := by
  obtain ⟨k, hk, _⟩ := Nums.of_bytes (bs := bs.take 20) (by rw [List.length_take]; omega) (hb.take 20)
  exact ⟨k, bs.drop 20, by rw [hk, List.take_append_drop], by rw [List.length_drop, hl], hb.drop 20⟩

theorem list32 {l : List Int} (h : l.length = 32) : ∃ x0 x1 x2 x3 x4 x5 x6 x7 x8 x9 x10 x11 x12 x13 x14 x15 x16 x17 x18 x19 x20 x21 x22 x23 x24 x25 x26 x27 x28 x29 x30 x31, l = [x0, x1, x2, x3, x4, x5, x6, x7, x8, x9, x10, x11, x12, x13, x14, x15, x16, x17, x18, x19, x20, x21, x22, x23, x24, x25, x26, x27, x28, x29, x30, x31] := by
  match l, h with
  | [x0, x1, x2, x3, x4, x5, x6, x7, x8, x9, x10, x11, x12, x13, x14, x15, x16, x17, x18, x19, x20, x21, x22, x23, x24, x25, x26, x27, x28, x29, x30, x31], _ => exact ⟨x0, x1, x2, x3, x4, x5, x6, x7, x8, x9, x10, x11, x12, x13, x14, x15, x16, x17, x18, x19, x20, x21, x22, x23, x24, x25, x26, x27, x28, x29, x30, x31, rfl⟩
set_option maxRecDepth 100000 in
theorem build_tok (t u e x : Int) {g : List Int} (h : g.length = 32) (W : World) : (Instr.build 30 #[(0, .int .u32 t), (1, .int .u32 u), (2, .int .u32 e), (3, .int .u64 x), (4, .agg (g.map (Value.int .u8)).toArray)]).run Tryd.prog W = .ok (.agg (.int .u32 t :: .int .u32 u :: .int .u32 e :: .int .u64 x :: g.map (Value.int .u8)).toArray) W := by
  obtain ⟨x0, x1, x2, x3, x4, x5, x6, x7, x8, x9, x10, x11, x12, x13, x14, x15, x16, x17, x18, x19, x20, x21, x22, x23, x24, x25, x26, x27, x28, x29, x30, x31, rfl⟩ := list32 h
  kernel_rfl
theorem yieldsIf_build {P : Program} {ops : Array Oper} {S : World → Prop} {op : Oper} {a : Act} (hw : Region.wanted op (yielded ops a.tmps) = true) (t : TypeId) (xs : Array (Nat × Operand)) (ho : op.op = .build t xs) {us : Array (Nat × Value)} {v : Value}
    (hx : (xs.toList.map fun p => (p.1, a.eval p.2)) = us.toList) (hr : ∀ W, (Instr.build t us).run P W = .ok v W) : YieldsIf P ops S op v a :=
  .inl ⟨hw, fun w _ => by
    have hx' : (xs.map fun (i, x) => (i, a.eval x)) = us := by
      apply Array.ext'
      rw [Array.toList_map, ← hx]
    subst hx'
    unfold execOp
    simp only [ho, Sem.run_bind, hr, Result.andThen_ok, Sem.run_pure]⟩
def zeroT : List Value := tcell Nums.zero zeroD
theorem z32 : zeroD.length = 32 := by decide

end Go.Proofs.YtofjpeplgagihaaDoor
