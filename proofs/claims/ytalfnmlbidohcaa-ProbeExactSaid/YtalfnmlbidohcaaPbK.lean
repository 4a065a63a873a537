/-
  ProbeExact, walked.
-/
import Derived.Test.YtalfnmlbidohcaaPbJ
import Derived.Test.YtalfnmlbidohcaaOpen14
namespace Go.Proofs.Ytalfnmlbidohcaa
open Go.RowKit

/-- Numbers in a row. -/
def LPlc : Lay Int where
  f p := [.int .i64 p]
  s := 1
  pos := by decide
  len _ := rfl
  one p := by
    intro u hu
    simp at hu
    subst hu
    rfl
theorem IsR.getK {w : World} {a : Option Addr} {n c : Nat} {xs : List Int} (h : IsR LKey w (.slice a n c) xs) {i : Nat} {x : Int} (hi : xs[i]? = some x) : ∃ b off, a = some ⟨b, off, Option.none⟩ ∧ w.cell? ⟨b, off + i, Option.none⟩ = some (.int .u32 x) := by
  obtain ⟨b, off, e, hc⟩ := h.get 1 rfl hi
  refine ⟨b, off, e, ?_⟩
  have := hc 0 (.int .u32 x) rfl
  simpa using this
theorem IsR.getP {w : World} {a : Option Addr} {n c : Nat} {xs : List Int} (h : IsR LPlc w (.slice a n c) xs) {i : Nat} {x : Int} (hi : xs[i]? = some x) : ∃ b off, a = some ⟨b, off, Option.none⟩ ∧ w.cell? ⟨b, off + i, Option.none⟩ = some (.int .i64 x) := by
  obtain ⟨b, off, e, hc⟩ := h.get 1 rfl hi
  refine ⟨b, off, e, ?_⟩
  have := hc 0 (.int .i64 x) rfl
  simpa using this
theorem RowC.base {w : World} {B B' : Nat} {v : Value} {y : List Cel} (h : RowC w B v y) (hB : B' ≤ B) : RowC w B' v y := by
  obtain ⟨hl, g, c, e, h0, h1⟩ := h
  exact ⟨hl, g, c, e, by omega, h1⟩
/-- Where the statement's run has come: the index, and which keys were put, with which places. -/
structure St (X : List Cel) (ab : List (Int × Int)) : Prop where
  ok : Valid X
  cn : cnt X = ab.length
  nd : (ab.map Prod.fst).Nodup
  hs : ∀ k p, Hs X k p ↔ (k, p) ∈ ab
  ks : Keys X
theorem St.few {X : List Cel} {ab : List (Int × Int)} (h : St X ab) : ab.length ≤ 12 := by rw [← h.cn]; exact h.ok.few
theorem St.new : St newX [] where
  ok := valid_newX
  cn := by decide
  nd := List.nodup_nil
  hs k p := ⟨fun ⟨i, h, _⟩ => absurd h (none_newX k i), fun h => by cases h⟩
  ks := fun c hc => by
    have := List.eq_of_mem_replicate hc
    rw [this]
    exact Keys.zero
theorem St.no {X : List Cel} {ab : List (Int × Int)} (h : St X ab) {key : Int} (hn : ∀ j : Nat, (ab.map Prod.fst)[j]? ≠ some key) : ∀ i, ¬ Has X key i := fun i hi => by
  have h1 : Hs X key (cel X i).p := ⟨i, hi, rfl⟩
  rw [h.hs] at h1
  have h2 : key ∈ ab.map Prod.fst := List.mem_map.2 ⟨_, h1, rfl⟩
  obtain ⟨j, hj, e⟩ := List.mem_iff_getElem.1 h2
  exact hn j (by rw [List.getElem?_eq_getElem hj, e])
theorem St.has {X : List Cel} {ab : List (Int × Int)} (h : St X ab) {key : Int} {j : Nat} (hj : (ab.map Prod.fst)[j]? = some key) : ∃ i, Has X key i := by
  rw [List.getElem?_map] at hj
  cases e : ab[j]? with
  | none => rw [e] at hj; cases hj
  | some a =>
    rw [e] at hj
    cases hj
    have h1 : (a.1, a.2) ∈ ab := List.mem_of_getElem? e
    rw [← h.hs] at h1
    obtain ⟨i, hi, _⟩ := h1
    exact ⟨i, hi⟩
theorem St.find {X : List Cel} {ab : List (Int × Int)} (h : St X ab) {key p : Int} {j : Nat} (hj : (ab.map Prod.fst)[j]? = some key) (hp : (ab.map Prod.snd)[j]? = some p) : FndX X key p 0 := by
  rw [h.ok.fnd]
  refine Or.inr ⟨rfl, (h.hs _ _).2 ?_⟩
  rw [List.getElem?_map] at hj hp
  cases e : ab[j]? with
  | none => rw [e] at hj; cases hj
  | some a =>
    rw [e] at hj hp
    cases hj
    cases hp
    exact List.mem_of_getElem? e
theorem St.nofind {X : List Cel} {ab : List (Int × Int)} (h : St X ab) {key : Int} (hn : ∀ j : Nat, (ab.map Prod.fst)[j]? ≠ some key) : FndX X key 0 6 := Or.inr (Or.inl ⟨h.ok, rfl, rfl, h.no hn⟩)
theorem St.full {X : List Cel} {ab : List (Int × Int)} (h : St X ab) {key p : Int} (hn : ∀ j : Nat, (ab.map Prod.fst)[j]? ≠ some key) (hp : 0 ≤ p ∧ p < 16) (hc : ab.length = 12) : PutX X key p [] 18 :=
  Or.inr (Or.inr (Or.inr (Or.inl ⟨h.ok, hp, h.no hn, rfl, rfl, h.cn.trans hc⟩)))
theorem St.put {X : List Cel} {ab : List (Int × Int)} (h : St X ab) {key p : Int} (hn : ∀ j : Nat, (ab.map Prod.fst)[j]? ≠ some key) (hk : 0 ≤ key ∧ key ≤ 4294967295) (hp : 0 ≤ p ∧ p < 16) (hc : ab.length ≠ 12) : ∃ Y, PutX X key p Y 0 ∧ St Y (ab ++ [(key, p)]) := by
  obtain ⟨n, h1, _, h2⟩ := h.ok.look_none (h.no hn)
  have h3 : cnt X < 12 := by have := h.few; have := h.cn; omega
  refine ⟨putL X key p n, Or.inr (Or.inr (Or.inr (Or.inr ⟨h.ok, hp, h.no hn, rfl, h3, n, h1, h2, rfl⟩))), h.ok.put h1 h2 hp h3, ?_, ?_, fun k q => ?_, h.ks.put n hk⟩
  · rw [cnt_put h.ok.len h2, h.cn]
    simp
  · rw [List.map_append, List.nodup_append]
    refine ⟨h.nd, by simp, fun a ha b hb => ?_⟩
    simp at hb
    subst hb
    rintro rfl
    obtain ⟨j, hj, e⟩ := List.mem_iff_getElem.1 ha
    exact hn j (by rw [List.getElem?_eq_getElem hj, e])
  · rw [hs_put h.ok h2, h.hs, List.mem_append]
    simp
theorem St.drop {X : List Cel} {ab : List (Int × Int)} (h : St X ab) {key : Int} {j : Nat} (hj : (ab.map Prod.fst)[j]? = some key) : ∃ Y, DrpX X key Y 0 ∧ St Y (ab.take j ++ ab.drop (j + 1)) := by
  obtain ⟨i, hi⟩ := h.has hj
  have hjl : j < ab.length := by
    have := (List.getElem?_eq_some_iff.1 hj).1
    rwa [List.length_map] at this
  have hsp : ab = ab.take j ++ ab[j] :: ab.drop (j + 1) := by rw [← List.drop_eq_getElem_cons hjl, List.take_append_drop]
  have hkj : ab[j].1 = key := by
    rw [List.getElem?_map, List.getElem?_eq_getElem hjl] at hj
    simpa using hj
  have hnd := h.nd
  rw [hsp, List.map_append, List.map_cons, List.nodup_append, List.nodup_cons, hkj] at hnd
  obtain ⟨n1, ⟨n2, n3⟩, n4⟩ := hnd
  refine ⟨drpL X i, Or.inr (Or.inr ⟨h.ok, rfl, i, hi, rfl⟩), h.ok.drop hi.1 hi.2.1, ?_, ?_, fun k q => ?_, h.ks.drp i⟩
  · have := cnt_drp h.ok hi.1 hi.2.1
    have := h.cn
    simp
    omega
  · rw [List.map_append, List.nodup_append]
    exact ⟨n1, n3, fun a ha b hb => n4 a ha b (List.mem_cons_of_mem _ hb)⟩
  · rw [hs_drp h.ok hi.1 hi.2.1, hi.2.2, h.hs]
    constructor
    · rintro ⟨h1, h2⟩
      rw [hsp] at h1
      rcases List.mem_append.1 h1 with q1 | q1
      · exact List.mem_append.2 (Or.inl q1)
      · rcases List.mem_cons.1 q1 with q2 | q2
        · rw [← q2] at hkj
          exact absurd hkj h2
        · exact List.mem_append.2 (Or.inr q2)
    · intro h1
      rcases List.mem_append.1 h1 with q1 | q1
      · refine ⟨List.mem_of_mem_take q1, fun e => ?_⟩
        exact n4 k (List.mem_map.2 ⟨_, q1, rfl⟩) key List.mem_cons_self e
      · refine ⟨List.mem_of_mem_drop q1, fun e => ?_⟩
        exact n2 (List.mem_map.2 ⟨_, q1, e⟩)
/-- Where a key was found among the first ones. -/
def Fst14 (ks : List Int) (key : Int) (k : Nat) (a : Int) : Prop := (a = -1 ∧ ∀ j, j < k → ks[j]? ≠ some key) ∨ (∃ j : Nat, j < k ∧ a = (j : Int) ∧ ks[j]? = some key)
theorem Fst14.here {ks : List Int} {key : Int} {k : Nat} (h : ks[k]? = some key) : Fst14 ks key (k + 1) (k : Int) := Or.inr ⟨k, by omega, rfl, h⟩
theorem Fst14.next {ks : List Int} {key a : Int} {k : Nat} (h : Fst14 ks key k a) (hk : ks[k]? ≠ some key) : Fst14 ks key (k + 1) a := by
  rcases h with ⟨h1, h2⟩ | ⟨j, h1, h2, h3⟩
  · refine Or.inl ⟨h1, fun j hj => ?_⟩
    rcases Nat.lt_or_ge j k with q | q
    · exact h2 j q
    · obtain rfl : j = k := by omega
      exact hk
  · exact Or.inr ⟨j, by omega, h2, h3⟩
/-- Whether a key was among the first ones. -/
def Thr (ks : List Int) (key : Int) (k : Nat) (t : Bool) : Prop := t = true ↔ ∃ j, j < k ∧ ks[j]? = some key
theorem cut_box {L : Lay Int} (hs : L.s = 1) {w : World} {b k m c : Nat} {xs ys : List Int} (h : Box w b (flatR L xs)) (hk : k + m ≤ xs.length) (hy : ys = (xs.drop k).take m) (h1 : m ≤ c) (h2 : c ≤ 9223372036854775807) : IsR L w (.slice (some ⟨b, k, none⟩) m c) ys := by
  subst hy
  have hl : ((xs.drop k).take m).length = m := by rw [List.length_take, List.length_drop]; omega
  refine ⟨some ⟨b, k, none⟩, c, by rw [hl], by omega, h2, fun _ => ⟨b, k, rfl, fun i x hi j v hv => ?_⟩, fun q => by cases q⟩
  have him : i < m := by
    have := (List.getElem?_eq_some_iff.1 hi).1
    rw [hl] at this
    exact this
  rw [List.getElem?_take_of_lt him, List.getElem?_drop] at hi
  have := h.c _ _ (flatR_at hi hv)
  rw [hs, Nat.mul_one] at this
  rw [hs, Nat.mul_one]
  exact this
theorem cut_boxI {L : Lay Int} (hs : L.s = 1) {w : World} {b k n c : Nat} {xs ys : List Int} (h : Box w b (flatR L xs)) (hl : xs.length = n) (hk : k ≤ n) (hy : ys = xs.drop k) (h1 : n ≤ c) (h2 : c ≤ 9223372036854775807) : IsR L w (.slice (if c = k then some ⟨b, 0, none⟩ else some ⟨b, k, none⟩) (n - k) (c - k)) ys := by
  by_cases q : c = k
  · rw [if_pos q]
    have e : ys = [] := by
      rw [hy]
      exact List.drop_eq_nil_of_le (by omega)
    subst e
    exact ⟨some ⟨b, 0, none⟩, c - k, by rw [show n - k = 0 by omega]; rfl, Nat.zero_le _, by omega, fun h0 => absurd h0 (Nat.lt_irrefl 0), fun q => by cases q⟩
  · rw [if_neg q]
    exact cut_box hs h (by omega) (by rw [hy, List.take_of_length_le (by rw [List.length_drop]; omega)]) (by omega) (by omega)
theorem info_u32 : (Try.prog.info? 23).map (fun i => (i.zero, i.size, i.bytes)) = some (some (.int .u32 0), 1, 4) := by kernel_rfl
theorem info_i64 : (Try.prog.info? 3).map (fun i => (i.zero, i.size, i.bytes)) = some (some (.int .i64 0), 1, 8) := by kernel_rfl

set_option maxRecDepth 100000 in
set_option maxHeartbeats 6400000 in
theorem exact14_a {v : Value} {l : List Int} {key : Int} (h : 60 < l.length) (w : World) (h1 : IsR LKey w v l) : Calls Try.prog 6 #[v, .int .u32 key] w fun e w' => e = .returned (.bool true) ∧ Below w.heap.size w w' := by
  obtain ⟨a, c, rfl, hr⟩ := id h1; have hm := hr.most; have hro := hr.room; obtain ⟨n, hn⟩ : ∃ n, l.length = n := ⟨_, rfl⟩; rw [hn] at h hro ⊢; clear hn h1 hr; have hd : decide (60 < (n : Int)) = true := decide_eq_true (by omega); have hdn : decide (60 < n) = true := decide_eq_true h; have AL := fun W => alive14_is W
  have hB0 := Below.refl w.heap.size w
  have hs0 := hB0.size
  go_enter Try.func6, Try.ntmps6
  go_wp2_with fail
  refine (AL _).mono ?_
  rintro e w1 ⟨rfl, hb⟩
  have hB1 : Below w.heap.size w w1 := below_thru hB0 hb
  have hs1 := hB1.size
  clear hB0 hs0
  clear hb
  go_wp2_with fail
  go_returns
  exact ⟨rfl, hB1⟩

set_option maxRecDepth 100000 in
set_option maxHeartbeats 6400000 in
theorem exact14_b {v : Value} {l : List Int} {key : Int} (h : l.length ≤ 60) (hky : ∀ k ∈ l, 0 ≤ k ∧ k ≤ 4294967295) (w : World) (h1 : IsR LKey w v l) : Calls Try.prog 6 #[v, .int .u32 key] w fun e w' => e = .returned (.bool true) ∧ Below w.heap.size w w' := by
  have H1 := Lib.hid h1; have HK := Lib.hid hky; obtain ⟨a, c, rfl, hr⟩ := id h1; obtain ⟨nl, hnl⟩ : ∃ n, l.length = n := ⟨_, rfl⟩; have HL := Lib.hid hnl; rw [hnl] at h H1 ⊢; have hd : decide (60 < (nl : Int)) = false := decide_eq_false (by omega); have hdn : decide (60 < nl) = false := decide_eq_false (by omega); have AL := fun W => alive14_is W; have NW := fun W => pnew_is W; clear h1 hky hr hnl
  have CK := fun (X : List Cel) (ab : List (Int × Int)) (hS : St X ab) (W : World) (u : Value) (h : IsR LCel W u X) => rchk_is (q := 0) hS.ks W h (Or.inl ⟨rfl, hS.ok⟩); have CN := fun (X : List Cel) (hl : X.length = 16) (W : World) (u : Value) (h : IsR LCel W u X) => rcnt_is hl W h; have FD := fun (X : List Cel) (k p q : Int) (hF : FndX X k p q) (W : World) (u : Value) (h : IsR LCel W u X) => pfind_is hF W h; have PU := fun (X Y : List Cel) (k p q : Int) (hP : PutX X k p Y q) (W : World) (u : Value) (h : IsR LCel W u X) => pput_is hP W h; have DR := fun (X Y : List Cel) (k q : Int) (hD : DrpX X k Y q) (W : World) (u : Value) (h : IsR LCel W u X) => pdrop_is hD W h
  obtain ⟨tiLKey, hinLKey, hz0LKey, hz1LKey, hz2LKey⟩ := info_parts info_u32; obtain ⟨tiLPlc, hinLPlc, hz0LPlc, hz1LPlc, hz2LPlc⟩ := info_parts info_i64; have HUK := Lib.hid (And.intro hinLKey (And.intro hz0LKey (And.intro hz1LKey hz2LKey))); have HUP := Lib.hid (And.intro hinLPlc (And.intro hz0LPlc (And.intro hz1LPlc hz2LPlc))); clear hinLKey hz0LKey hz1LKey hz2LKey hinLPlc hz0LPlc hz1LPlc hz2LPlc
  have hB0 := Below.refl w.heap.size w
  have hs0 := hB0.size
  go_enter Try.func6, Try.ntmps6
  go_wp2_with fail
  refine (AL _).mono ?_
  rintro e w1 ⟨rfl, hb⟩
  have hB1 : Below w.heap.size w w1 := below_thru hB0 hb
  have hs1 := hB1.size
  clear hB0 hs0
  clear hb
  go_wp2_with fail
  refine (NW _).mono ?_
  rintro e w2 ⟨u, rfl, hX, hb⟩
  have hX2 := hX.base hs1; clear hX
  have hB2 : Below w.heap.size w w2 := below_thru hB1 hb
  have hs2 := hB2.size
  clear hB1 hs1
  clear hb hd hdn AL NW
  go_wp2_with fail
  go_loopw [6, 7, 8, 9] (fun p6 p7 p8 p9 wr => ∃ (i : Nat) (X : List Cel) (ab : List (Int × Int)), i ≤ nl ∧ p9 = .int .i64 i ∧ Hid (St X ab) ∧ Hid (RowC wr w.heap.size p6 X) ∧ Hid (wr.ownsRow w.heap.size 23 1 p7 ab.length (flatR LKey (ab.map Prod.fst))) ∧ Hid (wr.ownsRow w.heap.size 3 1 p8 ab.length (flatR LPlc (ab.map Prod.snd))) ∧ Below w.heap.size w wr) (fun _ _ _ p9 _ => nl - (intOf p9).toNat)
  case atStart => exact ⟨0, newX, [], Nat.zero_le _, rfl, Lib.hid St.new, Lib.hid hX2, Lib.hid ownR_none, Lib.hid ownR_none, hB2⟩
  case round =>
    clear hB2 hs2 hX2
    obtain ⟨i, X, ab, hi, rfl, HS, HX, H7, H8, hB⟩ := hrel
    have hs := hB.size; obtain ⟨n, hn⟩ : ∃ n, ab.length = n := ⟨_, rfl⟩; have HN := Lib.hid hn; have n12 := HS.out.few; rw [hn] at H7 H8 n12; obtain ⟨a7, c7, rfl⟩ := own_slR H7.out; obtain ⟨a8, c8, rfl⟩ := own_slR H8.out; clear hn
    have HR7 := Lib.hid (IsR.own H7.out rfl (by rw [List.length_map, HN.out])); have HR8 := Lib.hid (IsR.own H8.out rfl (by rw [List.length_map, HN.out])); have hl16 := HX.out.1
    have LK7 := Lib.hid (show (ab.map Prod.fst).length = n by rw [List.length_map, HN.out]); have LK8 := Lib.hid (show (ab.map Prod.snd).length = n by rw [List.length_map, HN.out])
    by_cases hlt : i < nl
    case neg =>
      have hd : decide ((i : Int) < (nl : Int)) = false := decide_eq_false (by omega); have hdn : decide (i < nl) = false := decide_eq_false hlt; go_wp2_with fail
      clear hd hdn hlt hi
      go_loopw [17, 16] (fun p17 p16 wq => ∃ (k : Nat) (t : Bool), k ≤ n ∧ p17 = .int .i64 k ∧ p16 = .bool t ∧ Hid (Thr (ab.map Prod.fst) key k t) ∧ Below wr.heap.size wr wq) (fun p17 _ _ => n - (intOf p17).toNat)
      case atStart => exact ⟨0, false, Nat.zero_le _, rfl, rfl, Lib.hid ⟨fun h => (Bool.false_ne_true h).elim, fun ⟨j, h, _⟩ => absurd h (Nat.not_lt_zero j)⟩, Below.refl _ _⟩
      case round =>
        obtain ⟨k, t, hk, rfl, rfl, HT, hQ⟩ := hrel
        have hsq := hQ.size; by_cases hlt : k < n
        case neg =>
          have hd : decide ((k : Int) < (n : Int)) = false := decide_eq_false (by omega); have hdn : decide (k < n) = false := decide_eq_false hlt
          have hF : ∃ p q, FndX X key p q ∧ ((q == 0) = t ∧ ((q == 0) || (q == 6)) = true) := by
            cases t with
            | true =>
              obtain ⟨j, hj, hjk⟩ := HT.out.1 rfl
              obtain ⟨p, hp⟩ : ∃ p, (ab.map Prod.snd)[j]? = some p := ⟨_, List.getElem?_eq_getElem (by rw [LK8.out]; omega)⟩
              exact ⟨p, 0, HS.out.find hjk hp, rfl, rfl⟩
            | false =>
              exact ⟨0, 6, HS.out.nofind (fun j hj => Bool.false_ne_true (HT.out.2 ⟨j, by have := (List.getElem?_eq_some_iff.1 hj).1; rw [LK7.out] at this; omega, hj⟩)), rfl, rfl⟩
          obtain ⟨p, q, hF, hq, hq6⟩ := hF; have F1 := FD X key p q hF; clear hF HT hk
          go_wp2_with fail
          refine (F1 _ _ (HX.out.isR.below hQ)).mono ?_
          rintro e w3 ⟨rfl, hb⟩
          have hB3 := (hB.trans (hQ.mono hs)).trans (hb.mono (Nat.le_trans hs hsq)); clear hQ hB hb
          cases t with
          | true =>
            obtain rfl : q = 0 := by simpa using hq
            clear hq hq6; go_wp2_with fail
            go_returns
            exact ⟨rfl, hB3⟩
          | false =>
            have hq0 : q ≠ 0 := by simpa using hq
            have hq1 : q = 6 := by simpa [hq0] using hq6
            subst hq1; clear hq hq6 hq0; go_wp2_with fail
            go_returns
            exact ⟨rfl, hB3⟩
        case pos =>
          obtain ⟨K, hK⟩ : ∃ K, (ab.map Prod.fst)[k]? = some K := ⟨_, List.getElem?_eq_getElem (by rw [LK7.out]; exact hlt)⟩; obtain ⟨p, hp⟩ : ∃ p, (ab.map Prod.snd)[k]? = some p := ⟨_, List.getElem?_eq_getElem (by rw [LK8.out]; exact hlt)⟩
          have F1 := FD X K p 0 (HS.out.find hK hp); obtain ⟨b7, o7, rfl, f7⟩ := HR7.out.getK hK; obtain ⟨b8, o8, rfl, f8⟩ := HR8.out.getP hp; have g7 := cell_below hQ f7; have z7 := lt_of_cell g7
          have k0 : (0 : Int) ≤ (k : Int) := (by omega); have k1 : (k : Int) < (n : Int) := (by omega); have W1 : IntKind.i64.wrap ((k : Int) + 1) = ((k + 1 : Nat) : Int) := by rw [IntKind.wrap_i64]; omega
          have hd : decide ((k : Int) < (n : Int)) = true := decide_eq_true (by omega); have hdn : decide (k < n) = true := decide_eq_true hlt
          go_wp2_with fail
          refine (F1 _ _ (HX.out.isR.below hQ)).mono ?_
          rintro e w3 ⟨rfl, hb⟩
          have hQ3 := below_thru hQ hb; clear hb g7 z7; have g7 := cell_below hQ3 f7; have z7 := lt_of_cell g7; have g8 := cell_below hQ3 f8; have z8 := lt_of_cell g8; have dp : (p != p) = false := bne_self_eq_false p
          by_cases hkk : K = key
          case pos =>
            have HT2 : Hid (Thr (ab.map Prod.fst) key (k + 1) true) := Lib.hid ⟨fun _ => ⟨k, by omega, by rw [← hkk]; exact hK⟩, fun _ => rfl⟩; have hdk : (key == key) = true := beq_self_eq_true key; rw [hkk] at g7; clear hK hp f7 f8 HT hkk F1
            cases t with
            | true =>
              go_wp2_with fail
              go_roundw
              case rel => exact ⟨k + 1, true, by omega, by go_num, rfl, HT2, hQ3⟩
              case measure => simp [intOf]; omega
            | false =>
              go_wp2_with fail
              go_roundw
              case rel => exact ⟨k + 1, true, by omega, by go_num, rfl, HT2, hQ3⟩
              case measure => simp [intOf]; omega
          case neg =>
            have HT2 : Hid (Thr (ab.map Prod.fst) key (k + 1) t) := Lib.hid ⟨fun h => let ⟨j, h1, h2⟩ := HT.out.1 h; ⟨j, by omega, h2⟩, fun ⟨j, h1, h2⟩ => by
              rcases Nat.lt_or_ge j k with q | q
              · exact HT.out.2 ⟨j, q, h2⟩
              · obtain rfl : j = k := by omega
                rw [hK] at h2; cases h2; exact absurd rfl hkk⟩; have hdk : (K == key) = false := beq_false_of_ne hkk; clear hK hp f7 f8 HT hkk F1
            cases t with
            | true =>
              go_wp2_with fail
              go_roundw
              case rel => exact ⟨k + 1, true, by omega, by go_num, rfl, HT2, hQ3⟩
              case measure => simp [intOf]; omega
            | false =>
              go_wp2_with fail
              go_roundw
              case rel => exact ⟨k + 1, false, by omega, by go_num, rfl, HT2, hQ3⟩
              case measure => simp [intOf]; omega
    case pos =>
      obtain ⟨K, hK⟩ : ∃ K, l[i]? = some K := ⟨_, List.getElem?_eq_getElem (by rw [HL.out]; exact hlt)⟩; have hKr := HK.out K (List.mem_of_getElem? hK); obtain ⟨b1, o1, rfl, f0⟩ := H1.out.getK hK; have f1 := cell_below hB f0; clear f0 hK
      have hd : decide ((i : Int) < (nl : Int)) = true := decide_eq_true (by omega); have hdn : decide (i < nl) = true := decide_eq_true hlt; have i0 : (0 : Int) ≤ (i : Int) := (by omega); have i1 : (i : Int) < (nl : Int) := (by omega); have Wi : IntKind.i64.wrap ((i : Int) + 1) = ((i + 1 : Nat) : Int) := by rw [IntKind.wrap_i64]; omega
      go_wp2_with fail
      clear hd hdn; obtain ⟨wo, rfl⟩ : ∃ u : World, u = wr := ⟨_, rfl⟩
      go_loopw [11, 10] (fun p11 p10 wq => ∃ (k : Nat) (at0 : Int), k ≤ n ∧ p11 = .int .i64 k ∧ p10 = .int .i64 at0 ∧ Hid (Fst14 (ab.map Prod.fst) K k at0) ∧ Below wo.heap.size wo wq) (fun p11 _ _ => n - (intOf p11).toNat)
      case atStart => exact ⟨0, -1, Nat.zero_le _, rfl, rfl, Lib.hid (Or.inl ⟨rfl, fun j h => absurd h (Nat.not_lt_zero j)⟩), Below.refl _ _⟩
      case round =>
        obtain ⟨k, at0, hk, rfl, rfl, HF, hQ⟩ := hrel
        have hsq := hQ.size; by_cases hlt2 : k < n
        case pos =>
          obtain ⟨K2, hK2⟩ : ∃ K, (ab.map Prod.fst)[k]? = some K := ⟨_, List.getElem?_eq_getElem (by rw [LK7.out]; exact hlt2)⟩; obtain ⟨b7, o7, rfl, f7⟩ := HR7.out.getK hK2; have g7 := cell_below hQ f7; have g1 := cell_below hQ f1; have z7 := lt_of_cell g7; have z1 := lt_of_cell g1
          have k0 : (0 : Int) ≤ (k : Int) := (by omega); have k1 : (k : Int) < (n : Int) := (by omega); have W1 : IntKind.i64.wrap ((k : Int) + 1) = ((k + 1 : Nat) : Int) := by rw [IntKind.wrap_i64]; omega
          have hd : decide ((k : Int) < (n : Int)) = true := decide_eq_true (by omega); have hdn : decide (k < n) = true := decide_eq_true hlt2; go_upto_region 14 with fail
          clear hd hdn
          by_cases hkk : K2 = K
          case pos =>
            have HF2 := Lib.hid (Fst14.here (by rw [← hkk]; exact hK2 : (ab.map Prod.fst)[k]? = some K)); have hdk : (K == K) = true := beq_self_eq_true K; rw [hkk] at g7; clear hK2 f7 HF hkk
            have hB7 := hQ; have hs7 := hsq; clear hQ hsq
            refine wp_region_held_drew (S := fun W => W.cell? ⟨b7, o7 + k, none⟩ = some (.int .u32 K) ∧ W.cell? ⟨b1, o1 + i, none⟩ = some (.int .u32 K)) (by kernel_rfl) (And.intro g7 g1) (fun _ => ?_)
            refine F_drew (F := fun W => wpAnyH _ _ _ _ _ _ _ _ W) ?_
            intro Ws0 hbs0
            clear hs7
            have c_p_s0 := cell_below hbs0 g7
            have c_q_s0 := cell_below hbs0 g1
            have Bs0 := below_thru hB7 hbs0
            clear g7 g1 hB7 hbs0
            refine takeH 0 44 (v := ?vs0_1) rfl (by rfl) (by kernel_rfl) (by kernel_rfl) (by kernel_rfl) (fun _ _ _ h => h) (Or.inl ⟨by rfl, ?_⟩) ((And.intro c_p_s0 c_q_s0)) ?_
            rotate_left
            · intro wq hSq
              go_simp
              exact rfl
            try simp only [Act.put, List.setIfInBounds_toArray, List.set_cons_zero, List.set_cons_succ]
            refine takeH 1 45 (v := ?vs1_2) rfl (by rfl) (by kernel_rfl) (by kernel_rfl) (by kernel_rfl) (fun _ _ _ h => h) (Or.inl ⟨by rfl, ?_⟩) ((And.intro c_p_s0 c_q_s0)) ?_
            rotate_left
            · intro wq hSq
              go_simp
              exact rfl
            try simp only [Act.put, List.setIfInBounds_toArray, List.set_cons_zero, List.set_cons_succ]
            refine takeH 2 46 (v := ?vs2_3) rfl (by rfl) (by kernel_rfl) (by kernel_rfl) (by kernel_rfl) (fun _ _ _ h => h) (Or.inl ⟨by rfl, ?_⟩) ((And.intro c_p_s0 c_q_s0)) ?_
            rotate_left
            · intro wq hSq
              go_simp
              exact rfl
            try simp only [Act.put, List.setIfInBounds_toArray, List.set_cons_zero, List.set_cons_succ]
            refine takeH 3 47 (v := ?vs3_4) rfl (by rfl) (by kernel_rfl) (by kernel_rfl) (by kernel_rfl) (fun _ _ _ h => h) (Or.inl ⟨by rfl, ?_⟩) ((And.intro c_p_s0 c_q_s0)) ?_
            rotate_left
            · intro wq hSq
              have cq := hSq.1
              have zq := lt_of_cell cq
              go_simp
              exact rfl
            try simp only [Act.put, List.setIfInBounds_toArray, List.set_cons_zero, List.set_cons_succ]
            refine takeH 4 48 (v := ?vs4_5) rfl (by rfl) (by kernel_rfl) (by kernel_rfl) (by kernel_rfl) (fun _ _ _ h => h) (Or.inl ⟨by rfl, ?_⟩) ((And.intro c_p_s0 c_q_s0)) ?_
            rotate_left
            · intro wq hSq
              go_simp
              exact rfl
            try simp only [Act.put, List.setIfInBounds_toArray, List.set_cons_zero, List.set_cons_succ]
            refine takeH 5 49 (v := ?vs5_6) rfl (by rfl) (by kernel_rfl) (by kernel_rfl) (by kernel_rfl) (fun _ _ _ h => h) (Or.inl ⟨by rfl, ?_⟩) ((And.intro c_p_s0 c_q_s0)) ?_
            rotate_left
            · intro wq hSq
              go_simp
              exact rfl
            try simp only [Act.put, List.setIfInBounds_toArray, List.set_cons_zero, List.set_cons_succ]
            refine takeH 6 50 (v := ?vs6_7) rfl (by rfl) (by kernel_rfl) (by kernel_rfl) (by kernel_rfl) (fun _ _ _ h => h) (Or.inl ⟨by rfl, ?_⟩) ((And.intro c_p_s0 c_q_s0)) ?_
            rotate_left
            · intro wq hSq
              go_simp
              exact rfl
            try simp only [Act.put, List.setIfInBounds_toArray, List.set_cons_zero, List.set_cons_succ]
            refine takeH 7 51 (v := ?vs7_8) rfl (by rfl) (by kernel_rfl) (by kernel_rfl) (by kernel_rfl) (fun _ _ _ h => h) (Or.inl ⟨by rfl, ?_⟩) ((And.intro c_p_s0 c_q_s0)) ?_
            rotate_left
            · intro wq hSq
              have cq := hSq.2
              have zq := lt_of_cell cq
              go_simp
              exact rfl
            try simp only [Act.put, List.setIfInBounds_toArray, List.set_cons_zero, List.set_cons_succ]
            refine takeH 8 52 (v := ?vs8_9) rfl (by rfl) (by kernel_rfl) (by kernel_rfl) (by kernel_rfl) (fun _ _ _ h => h) (Or.inl ⟨by rfl, ?_⟩) ((And.intro c_p_s0 c_q_s0)) ?_
            rotate_left
            · intro wq hSq
              go_simp
              exact rfl
            try simp only [Act.put, List.setIfInBounds_toArray, List.set_cons_zero, List.set_cons_succ]
            refine wpAnyH_done (by kernel_rfl) ?_ _
            go_wp2_with fail
            go_roundw
            case rel => exact ⟨k + 1, (k : Int), by omega, by go_num, rfl, HF2, Bs0⟩
            case measure => simp [intOf]; omega
          case neg =>
            have HF2 := Lib.hid (HF.out.next (by rw [hK2]; intro q; cases q; exact hkk rfl)); have hdk : (K2 == K) = false := beq_false_of_ne hkk; clear hK2 f7 HF hkk
            have hB7 := hQ; have hs7 := hsq; clear hQ hsq
            refine wp_region_held_drew (S := fun W => W.cell? ⟨b7, o7 + k, none⟩ = some (.int .u32 K2) ∧ W.cell? ⟨b1, o1 + i, none⟩ = some (.int .u32 K)) (by kernel_rfl) (And.intro g7 g1) (fun _ => ?_)
            refine F_drew (F := fun W => wpAnyH _ _ _ _ _ _ _ _ W) ?_
            intro Wu0 hbu0
            clear hs7
            have c_p_u0 := cell_below hbu0 g7
            have c_q_u0 := cell_below hbu0 g1
            have Bu0 := below_thru hB7 hbu0
            clear g7 g1 hB7 hbu0
            refine takeH 0 44 (v := ?vu0_1) rfl (by rfl) (by kernel_rfl) (by kernel_rfl) (by kernel_rfl) (fun _ _ _ h => h) (Or.inl ⟨by rfl, ?_⟩) ((And.intro c_p_u0 c_q_u0)) ?_
            rotate_left
            · intro wq hSq
              go_simp
              exact rfl
            try simp only [Act.put, List.setIfInBounds_toArray, List.set_cons_zero, List.set_cons_succ]
            refine takeH 1 45 (v := ?vu1_2) rfl (by rfl) (by kernel_rfl) (by kernel_rfl) (by kernel_rfl) (fun _ _ _ h => h) (Or.inl ⟨by rfl, ?_⟩) ((And.intro c_p_u0 c_q_u0)) ?_
            rotate_left
            · intro wq hSq
              go_simp
              exact rfl
            try simp only [Act.put, List.setIfInBounds_toArray, List.set_cons_zero, List.set_cons_succ]
            refine takeH 2 46 (v := ?vu2_3) rfl (by rfl) (by kernel_rfl) (by kernel_rfl) (by kernel_rfl) (fun _ _ _ h => h) (Or.inl ⟨by rfl, ?_⟩) ((And.intro c_p_u0 c_q_u0)) ?_
            rotate_left
            · intro wq hSq
              go_simp
              exact rfl
            try simp only [Act.put, List.setIfInBounds_toArray, List.set_cons_zero, List.set_cons_succ]
            refine takeH 3 47 (v := ?vu3_4) rfl (by rfl) (by kernel_rfl) (by kernel_rfl) (by kernel_rfl) (fun _ _ _ h => h) (Or.inl ⟨by rfl, ?_⟩) ((And.intro c_p_u0 c_q_u0)) ?_
            rotate_left
            · intro wq hSq
              have cq := hSq.1
              have zq := lt_of_cell cq
              go_simp
              exact rfl
            try simp only [Act.put, List.setIfInBounds_toArray, List.set_cons_zero, List.set_cons_succ]
            refine takeH 4 48 (v := ?vu4_5) rfl (by rfl) (by kernel_rfl) (by kernel_rfl) (by kernel_rfl) (fun _ _ _ h => h) (Or.inl ⟨by rfl, ?_⟩) ((And.intro c_p_u0 c_q_u0)) ?_
            rotate_left
            · intro wq hSq
              go_simp
              exact rfl
            try simp only [Act.put, List.setIfInBounds_toArray, List.set_cons_zero, List.set_cons_succ]
            refine takeH 5 49 (v := ?vu5_6) rfl (by rfl) (by kernel_rfl) (by kernel_rfl) (by kernel_rfl) (fun _ _ _ h => h) (Or.inl ⟨by rfl, ?_⟩) ((And.intro c_p_u0 c_q_u0)) ?_
            rotate_left
            · intro wq hSq
              go_simp
              exact rfl
            try simp only [Act.put, List.setIfInBounds_toArray, List.set_cons_zero, List.set_cons_succ]
            refine takeH 6 50 (v := ?vu6_7) rfl (by rfl) (by kernel_rfl) (by kernel_rfl) (by kernel_rfl) (fun _ _ _ h => h) (Or.inl ⟨by rfl, ?_⟩) ((And.intro c_p_u0 c_q_u0)) ?_
            rotate_left
            · intro wq hSq
              go_simp
              exact rfl
            try simp only [Act.put, List.setIfInBounds_toArray, List.set_cons_zero, List.set_cons_succ]
            refine takeH 7 51 (v := ?vu7_8) rfl (by rfl) (by kernel_rfl) (by kernel_rfl) (by kernel_rfl) (fun _ _ _ h => h) (Or.inl ⟨by rfl, ?_⟩) ((And.intro c_p_u0 c_q_u0)) ?_
            rotate_left
            · intro wq hSq
              have cq := hSq.2
              have zq := lt_of_cell cq
              go_simp
              exact rfl
            try simp only [Act.put, List.setIfInBounds_toArray, List.set_cons_zero, List.set_cons_succ]
            refine takeH 8 52 (v := ?vu8_9) rfl (by rfl) (by kernel_rfl) (by kernel_rfl) (by kernel_rfl) (fun _ _ _ h => h) (Or.inl ⟨by rfl, ?_⟩) ((And.intro c_p_u0 c_q_u0)) ?_
            rotate_left
            · intro wq hSq
              go_simp
              exact rfl
            try simp only [Act.put, List.setIfInBounds_toArray, List.set_cons_zero, List.set_cons_succ]
            refine wpAnyH_done (by kernel_rfl) ?_ _
            go_wp2_with fail
            go_roundw
            case rel => exact ⟨k + 1, at0, by omega, by go_num, rfl, HF2, Bu0⟩
            case measure => simp [intOf]; omega
        case neg =>
          have hd : decide ((k : Int) < (n : Int)) = false := decide_eq_false (by omega); have hdn : decide (k < n) = false := decide_eq_false hlt2; have hkn : k = n := (by omega); have g1 := cell_below hQ f1; have z1 := lt_of_cell g1
          have HFn := HF.out; rw [hkn] at HFn; clear HF; rcases HFn with ⟨rfl, hnone⟩ | ⟨j, hj, rfl, hKj⟩
          case inl =>
            have hno : ∀ j : Nat, (ab.map Prod.fst)[j]? ≠ some K := fun j hj => by
              have := (List.getElem?_eq_some_iff.1 hj).1
              rw [LK7.out] at this
              exact hnone j this hj
            have hp : 0 ≤ (i : Int) % 16 ∧ (i : Int) % 16 < 16 := by omega
            by_cases hf : n = 12
            case pos =>
              have P1 := PU X [] K ((i : Int) % 16) 18 (HS.out.full hno hp (by rw [HN.out]; exact hf)); have hd2 : ((n : Int) == 12) = true := by rw [beq_iff_eq]; omega
              clear hno hp hnone hkn hf
              go_wp2_with fail
              refine (P1 _ _ (HX.out.isR.below hQ)).mono ?_
              rintro e w5 ⟨u, rfl, _, hb⟩
              have hQ5 := below_thru hQ hb; have hB5 := hB.trans (hQ5.mono hs); clear hb g1 z1 P1
              go_wp2_with fail
              go_roundw
              case rel => exact ⟨i + 1, X, ab, by omega, by go_num, HS, Lib.hid (HX.out.below hQ5), Lib.hid (by rw [HN.out]; exact ownR_below H7.out hQ5), Lib.hid (by rw [HN.out]; exact ownR_below H8.out hQ5), hB5⟩
              case measure => simp [intOf]; omega
            case neg =>
              obtain ⟨Y, hP, hS2⟩ := HS.out.put hno hKr hp (by rw [HN.out]; exact hf); have P1 := PU X Y K ((i : Int) % 16) 0 hP; have hd2 : ((n : Int) == 12) = false := by rw [beq_eq_false_iff_ne]; omega
              have HS2 := Lib.hid hS2; have HYl := Lib.hid hS2.ok.len; have HYc := Lib.hid (show cnt Y = n + 1 by rw [hS2.cn]; simp [HN.out]); clear hno hp hnone hkn hP hS2 hf
              go_wp2_with fail
              refine (P1 _ _ (HX.out.isR.below hQ)).mono ?_
              rintro e w5 ⟨u, rfl, hY, hb⟩
              have hQ5 := below_thru hQ hb; have hB5 := hB.trans (hQ5.mono hs); have hs5 := hB5.size; clear z1 P1; have g5 := cell_below hQ5 f1; have z5 := lt_of_cell g5; clear g1
              obtain ⟨_, gy, cy, rfl, hgy, hy1, hy2, xY, tY⟩ := (hY.row HYl.out).base (show w.heap.size ≤ wr.heap.size by omega); clear hY hb
              have O7 := ownR_below H7.out hQ5; have O8 := ownR_below H8.out hQ5; have LF7 := Lib.hid (flatR_app LKey (ab.map Prod.fst) [K]); have LF8 := Lib.hid (flatR_app LPlc (ab.map Prod.snd) [(i : Int) % 16])
              obtain ⟨hinLKey, hz0LKey, hz1LKey, hz2LKey⟩ := HUK.out; obtain ⟨hinLPlc, hz0LPlc, hz1LPlc, hz2LPlc⟩ := HUP.out
              go_upto_region 27 with fail
              clear hd hdn hd2
              go_wp2_with (first | (at_builtin; have LE5 : IsR LKey (w5.alloc (.cells #[.int .u32 K] 23)) (.slice (some ⟨w5.heap.size, 0, none⟩) 1 1) [K] := IsR.built [K] rfl rfl rfl rfl (by simp); have al5 := (Below.refl _ w5).alloc (Nat.le_refl _) (.cells #[.int .u32 K] 23); have OA5 := ownR_below O7 al5; have OB5 := ownR_below O8 al5; refine wpList_append_rows rfl LKey _ _ 45 rfl w.heap.size 23 tiLKey (.int .u32 0) 1 4 rfl Try.underlying45 hinLKey hz0LKey hz1LKey hz2LKey rfl _ n _ rfl OA5 _ [K] rfl LE5 (by unfold maxLen; simp; omega) (by simp; omega) (by simp; omega) ?_; intro v6 w6 own6 gr6; have hB6 := ((hB5.alloc hs5 (.cells #[.int .u32 K] 23))).grown gr6 (by simp; omega) (ownR_block OA5); have hs6 := hB6.size; have OC6 := ownR_apart OB5 OA5 (by decide) gr6; obtain ⟨xY6, tY6⟩ := Box.grownT (xY.alloc (.cells #[.int .u32 K] 23)) (tY.alloc (.cells #[.int .u32 K] 23)) OA5 (by decide) gr6; rw [← LF7.out] at own6; clear LE5 al5 OA5 OB5 gr6 hB5 hs5 xY tY) | (at_builtin; have LE6 : IsR LPlc (w6.alloc (.cells #[.int .i64 ((i : Int) % 16)] 3)) (.slice (some ⟨w6.heap.size, 0, none⟩) 1 1) [(i : Int) % 16] := IsR.built [(i : Int) % 16] rfl rfl rfl rfl (by simp); have al6 := (Below.refl _ w6).alloc (Nat.le_refl _) (.cells #[.int .i64 ((i : Int) % 16)] 3); have OA6 := ownR_below OC6 al6; have OB6 := ownR_below own6 al6; refine wpList_append_rows rfl LPlc _ _ 46 rfl w.heap.size 3 tiLPlc (.int .i64 0) 1 8 rfl Try.underlying46 hinLPlc hz0LPlc hz1LPlc hz2LPlc rfl _ n _ rfl OA6 _ [(i : Int) % 16] rfl LE6 (by unfold maxLen; simp; omega) (by simp; omega) (by simp; omega) ?_; intro v7 w7 own7 gr7; have hB7 := ((hB6.alloc hs6 (.cells #[.int .i64 ((i : Int) % 16)] 3))).grown gr7 (by simp; omega) (ownR_block OA6); have hs7 := hB7.size; have OC7 := ownR_apart OB6 OA6 (by decide) gr7; obtain ⟨xY7, tY7⟩ := Box.grownT (xY6.alloc (.cells #[.int .i64 ((i : Int) % 16)] 3)) (tY6.alloc (.cells #[.int .i64 ((i : Int) % 16)] 3)) OA6 (by decide) gr7; rw [← LF8.out] at own7; clear LE6 al6 OA6 OB6 gr7 hB6 hs6 xY6 tY6))
              have RY : RowC w7 w.heap.size (.slice (some ⟨gy, 0, none⟩) 16 cy) Y := ⟨HYl.out, gy, cy, rfl, hgy, hy1, hy2, xY7, tY7⟩; have P7 := ownR_len OC7 (m := n + 1) rfl; have P8 := ownR_len own7 (m := n + 1) rfl; clear xY7 tY7 OC7 own7; obtain ⟨a6, c6, rfl⟩ := own_slR P7; obtain ⟨a9, c9, rfl⟩ := own_slR P8; have hW7 := hB7.size
              have CY := CN Y HYl.out; rw [HYc.out] at CY
              refine (CK Y _ HS2.out _ _ RY.isR).mono ?_
              rintro e w88 ⟨rfl, hb⟩
              have RY8 := RY.below hb; have P78 := ownR_below P7 hb; have P88 := ownR_below P8 hb; have hB8 := below_thru hB7 hb; clear hb RY P7 P8 hB7
              go_wp2_with fail
              refine (CY _ _ RY8.isR).mono ?_
              rintro e w89 ⟨rfl, hb⟩
              have RY9 := Lib.hid (RY8.below hb); have P79 := ownR_below P78 hb; have P89 := ownR_below P88 hb; have hB9 := below_thru hB8 hb; clear hb RY8 P78 P88 hB8
              go_wp2_with fail
              go_roundw
              case rel => exact ⟨i + 1, Y, ab ++ [(K, (i : Int) % 16)], by omega, by go_num, HS2, RY9, Lib.hid (by rw [List.length_append, HN.out, List.map_append]; exact P79), Lib.hid (by rw [List.length_append, HN.out, List.map_append]; exact P89), hB9⟩
              case measure => simp [intOf]; omega
          case inr =>
            obtain ⟨Y, hD, hS2⟩ := HS.out.drop hKj; have D1 := DR X Y K 0 hD; have HYl := Lib.hid hS2.ok.len; have hln : (ab.take j ++ ab.drop (j + 1)).length = n - 1 := by simp; have := HN.out; omega
            have HYc := Lib.hid (show cnt Y = n - 1 by rw [hS2.cn]; exact hln); have HLn := Lib.hid hln; have HS2 := Lib.hid hS2; clear hD hS2 hKj hkn hln
            obtain ⟨g7, d7, e7, hg7, hn7, hm7, x7⟩ := own_box H7.out (by omega); obtain ⟨g8, d8, e8, hg8, hn8, hm8, x8⟩ := own_box H8.out (by omega); cases e7; cases e8
            go_wp2_with fail
            refine (D1 _ _ (HX.out.isR.below hQ)).mono ?_
            rintro e w5 ⟨u, rfl, hY, hb⟩
            have hQ5 := below_thru hQ hb; have hB5 := hB.trans (hQ5.mono hs); have hs5 := hB5.size; have RY0 := (hY.row HYl.out).base (show w.heap.size ≤ wr.heap.size by omega); have y7 := x7.below hQ5; have y8 := x8.below hQ5; clear hb z1 g1 D1 hY x7 x8 hQ hQ5 hd hdn
            have j0 : (0 : Int) ≤ (j : Int) := (by omega); have j1 : (j : Int) ≤ (n : Int) := (by omega); have j2 : (j : Int) ≤ (c7 : Int) := (by omega); have j3 : (j : Int) ≤ (c8 : Int) := (by omega); have j4 : ((j + 1 : Nat) : Int) ≤ (n : Int) := (by omega); have j5 : j ≤ c7 := (by omega); have j6 : j ≤ c8 := (by omega); have j8 : (0 : Int) ≤ (j : Int) + 1 := (by omega); have j9 : (j : Int) + 1 ≤ (n : Int) := (by omega); have j7 : (0 : Int) ≤ ((j + 1 : Nat) : Int) := (by omega)
            have Wj : IntKind.i64.wrap ((j : Int) + 1) = ((j + 1 : Nat) : Int) := by rw [IntKind.wrap_i64]; omega
            go_upto_region 20 with fail
            obtain ⟨hinLKey, hz0LKey, hz1LKey, hz2LKey⟩ := HUK.out; obtain ⟨hinLPlc, hz0LPlc, hz1LPlc, hz2LPlc⟩ := HUP.out
            have HA := Lib.hid (show (ab.map Prod.fst).take j ++ (ab.map Prod.fst).drop (j + 1) = (ab.take j ++ ab.drop (j + 1)).map Prod.fst by rw [List.map_append, List.map_take, List.map_drop]); have HB := Lib.hid (show (ab.map Prod.snd).take j ++ (ab.map Prod.snd).drop (j + 1) = (ab.take j ++ ab.drop (j + 1)).map Prod.snd by rw [List.map_append, List.map_take, List.map_drop])
            obtain ⟨M7, hM7⟩ : ∃ M, (ab.take j ++ ab.drop (j + 1)).map Prod.fst = M := ⟨_, rfl⟩; obtain ⟨M8, hM8⟩ : ∃ M, (ab.take j ++ ab.drop (j + 1)).map Prod.snd = M := ⟨_, rfl⟩; rw [hM7] at HA; rw [hM8] at HB; have HM7 := Lib.hid hM7; have HM8 := Lib.hid hM8; clear hM7 hM8
            obtain ⟨k7, hk7⟩ : ∃ M, ab.map Prod.fst = M := ⟨_, rfl⟩; obtain ⟨k8, hk8⟩ : ∃ M, ab.map Prod.snd = M := ⟨_, rfl⟩; rw [hk7] at HA y7 LK7; rw [hk8] at HB y8 LK8
            have HA2 := Lib.hid (show flatR LKey (k7.take j) ++ flatR LKey (k7.drop (j + 1)) = flatR LKey M7 by rw [← flatR_app, HA.out]); have HB2 := Lib.hid (show flatR LPlc (k8.take j) ++ flatR LPlc (k8.drop (j + 1)) = flatR LPlc M8 by rw [← flatR_app, HB.out])
            have T7 := Lib.hid (show (k7.take j).length = j by rw [List.length_take, LK7.out]; omega); have T8 := Lib.hid (show (k8.take j).length = j by rw [List.length_take, LK8.out]; omega); have U7 := Lib.hid (show (k7.drop (j + 1)).length = n - (j + 1) by rw [List.length_drop, LK7.out]); have U8 := Lib.hid (show (k8.drop (j + 1)).length = n - (j + 1) by rw [List.length_drop, LK8.out])
            go_cut [6, 7, 8] (fun p6 p7 p8 wx => p6 = u ∧ Hid (wx.ownsRow w5.heap.size 23 1 p7 (n - 1) (flatR LKey M7)) ∧ Hid (wx.ownsRow w5.heap.size 3 1 p8 (n - 1) (flatR LPlc M8)) ∧ Below w5.heap.size w5 wx)
            case first =>
              clear HN HS HX H7 H8 HR7 HR8 HK HL H1 CK CN FD PU DR RY0 hB hB5 HS2 HYl HYc HLn HA HB HM7 HM8 hk7 hk8
              have x_k77 := y7; have x_k87 := y8; have hB7 : Below w5.heap.size w5 w5 := Below.refl _ _; have hs7 := hB7.size; have lt7 := y7.lt; have lt8 := y8.lt; clear y7 y8
              refine wp_region_held_drew (S := fun W => Box W (g7) (flatR LKey k7) ∧ Box W (g8) (flatR LPlc k8)) (by kernel_rfl) (And.intro (x_k77).drew (x_k87).drew) (fun _ => ?_)
              refine F_drew (F := fun W => wpAnyH _ _ _ _ _ _ _ _ W) ?_
              intro Wz0 hbz0
              clear hs7
              have x_k7_z0 : Box Wz0 (g7) (flatR LKey k7) := Box.below x_k77 hbz0
              have x_k8_z0 : Box Wz0 (g8) (flatR LPlc k8) := Box.below x_k87 hbz0
              have Bz0 := below_thru hB7 hbz0
              clear x_k77 x_k87 hB7 hbz0
              refine takeH 0 67 (v := ?vz0_1) rfl (by rfl) (by kernel_rfl) (by kernel_rfl) (by kernel_rfl) (fun _ _ _ h => h) (Or.inl ⟨by rfl, ?_⟩) ((And.intro x_k7_z0 x_k8_z0)) ?_
              rotate_left
              · intro wq hSq
                go_simp
                exact rfl
              try simp only [Act.put, List.setIfInBounds_toArray, List.set_cons_zero, List.set_cons_succ]
              refine takeH 2 69 (v := ?vz2_2) rfl (by rfl) (by kernel_rfl) (by kernel_rfl) (by kernel_rfl) (fun _ _ _ h => h) (Or.inl ⟨by rfl, ?_⟩) ((And.intro x_k7_z0 x_k8_z0)) ?_
              rotate_left
              · intro wq hSq
                go_simp
                exact rfl
              try simp only [Act.put, List.setIfInBounds_toArray, List.set_cons_zero, List.set_cons_succ]
              refine takeH 3 70 (v := ?vz3_3) rfl (by rfl) (by kernel_rfl) (by kernel_rfl) (by kernel_rfl) (fun _ _ _ h => h) (Or.inl ⟨by rfl, ?_⟩) ((And.intro x_k7_z0 x_k8_z0)) ?_
              rotate_left
              · intro wq hSq
                go_simp
                exact rfl
              try simp only [Act.put, List.setIfInBounds_toArray, List.set_cons_zero, List.set_cons_succ]
              refine takeH 4 71 (v := ?vz4_4) rfl (by rfl) (by kernel_rfl) (by kernel_rfl) (by kernel_rfl) (fun _ _ _ h => h) (Or.inl ⟨by rfl, ?_⟩) ((And.intro x_k7_z0 x_k8_z0)) ?_
              rotate_left
              · intro wq hSq
                go_simp
                exact rfl
              try simp only [Act.put, List.setIfInBounds_toArray, List.set_cons_zero, List.set_cons_succ]
              refine takeH 6 73 (v := ?vz6_5) rfl (by rfl) (by kernel_rfl) (by kernel_rfl) (by kernel_rfl) (fun _ _ _ h => h) (Or.inl ⟨by rfl, ?_⟩) ((And.intro x_k7_z0 x_k8_z0)) ?_
              rotate_left
              · intro wq hSq
                go_simp
                exact rfl
              try simp only [Act.put, List.setIfInBounds_toArray, List.set_cons_zero, List.set_cons_succ]
              refine takeH 7 74 (v := ?vz7_6) rfl (by rfl) (by kernel_rfl) (by kernel_rfl) (by kernel_rfl) (fun _ _ _ h => h) (Or.inl ⟨by rfl, ?_⟩) ((And.intro x_k7_z0 x_k8_z0)) ?_
              rotate_left
              · intro wq hSq
                go_simp
                exact rfl
              try simp only [Act.put, List.setIfInBounds_toArray, List.set_cons_zero, List.set_cons_succ]
              refine takeH 8 75 (v := ?vz8_7) rfl (by rfl) (by kernel_rfl) (by kernel_rfl) (by kernel_rfl) (fun _ _ _ h => h) (Or.inl ⟨by rfl, ?_⟩) ((And.intro x_k7_z0 x_k8_z0)) ?_
              rotate_left
              · intro wq hSq
                go_simp
                exact rfl
              try simp only [Act.put, List.setIfInBounds_toArray, List.set_cons_zero, List.set_cons_succ]
              refine takeH 9 76 (v := ?vz9_8) rfl (by rfl) (by kernel_rfl) (by kernel_rfl) (by kernel_rfl) (fun _ _ _ h => h) (Or.inl ⟨by rfl, ?_⟩) ((And.intro x_k7_z0 x_k8_z0)) ?_
              rotate_left
              · intro wq hSq
                go_simp
                exact rfl
              try simp only [Act.put, List.setIfInBounds_toArray, List.set_cons_zero, List.set_cons_succ]
              refine takeH 12 79 (v := ?vz12_9) rfl (by rfl) (by kernel_rfl) (by kernel_rfl) (by kernel_rfl) (fun _ _ _ h => h) (Or.inl ⟨by rfl, ?_⟩) ((And.intro x_k7_z0 x_k8_z0)) ?_
              rotate_left
              · intro wq hSq
                go_simp
                exact rfl
              try simp only [Act.put, List.setIfInBounds_toArray, List.set_cons_zero, List.set_cons_succ]
              refine takeH 13 80 (v := ?vz13_10) rfl (by rfl) (by kernel_rfl) (by kernel_rfl) (by kernel_rfl) (fun _ _ _ h => h) (Or.inl ⟨by rfl, ?_⟩) ((And.intro x_k7_z0 x_k8_z0)) ?_
              rotate_left
              · intro wq hSq
                go_simp
                exact rfl
              try simp only [Act.put, List.setIfInBounds_toArray, List.set_cons_zero, List.set_cons_succ]
              refine takeH 14 81 (v := ?vz14_11) rfl (by rfl) (by kernel_rfl) (by kernel_rfl) (by kernel_rfl) (fun _ _ _ h => h) (Or.inl ⟨by rfl, ?_⟩) ((And.intro x_k7_z0 x_k8_z0)) ?_
              rotate_left
              · intro wq hSq
                go_simp
                exact rfl
              try simp only [Act.put, List.setIfInBounds_toArray, List.set_cons_zero, List.set_cons_succ]
              refine takeH 16 83 (v := ?vz16_12) rfl (by rfl) (by kernel_rfl) (by kernel_rfl) (by kernel_rfl) (fun _ _ _ h => h) (Or.inl ⟨by rfl, ?_⟩) ((And.intro x_k7_z0 x_k8_z0)) ?_
              rotate_left
              · intro wq hSq
                go_simp
                exact rfl
              try simp only [Act.put, List.setIfInBounds_toArray, List.set_cons_zero, List.set_cons_succ]
              refine takeH 17 84 (v := ?vz17_13) rfl (by rfl) (by kernel_rfl) (by kernel_rfl) (by kernel_rfl) (fun _ _ _ h => h) (Or.inl ⟨by rfl, ?_⟩) ((And.intro x_k7_z0 x_k8_z0)) ?_
              rotate_left
              · intro wq hSq
                go_simp
                exact rfl
              try simp only [Act.put, List.setIfInBounds_toArray, List.set_cons_zero, List.set_cons_succ]
              refine takeH 18 85 (v := ?vz18_14) rfl (by rfl) (by kernel_rfl) (by kernel_rfl) (by kernel_rfl) (fun _ _ _ h => h) (Or.inl ⟨by rfl, ?_⟩) ((And.intro x_k7_z0 x_k8_z0)) ?_
              rotate_left
              · intro wq hSq
                go_simp
                exact rfl
              try simp only [Act.put, List.setIfInBounds_toArray, List.set_cons_zero, List.set_cons_succ]
              refine takeH 19 86 (v := ?vz19_15) rfl (by rfl) (by kernel_rfl) (by kernel_rfl) (by kernel_rfl) (fun _ _ _ h => h) (Or.inl ⟨by rfl, ?_⟩) ((And.intro x_k7_z0 x_k8_z0)) ?_
              rotate_left
              · intro wq hSq
                go_simp
                exact rfl
              try simp only [Act.put, List.setIfInBounds_toArray, List.set_cons_zero, List.set_cons_succ]
              refine wpAnyH_ready (rs := [1, 11]) (by kernel_rfl) (by simp) (AllReadyH.cons rfl (fun K hK => ?_) (AllReadyH.cons rfl (fun K hK => ?_) AllReadyH.nil))
              · skip
                have zlz16 : w5.heap.size ≤ Wz0.heap.size := Below.size Bz0
                go_simp
                refine hK.out _ _ (And.intro (Box.alloc x_k7_z0 _) (Box.alloc x_k8_z0 _)) (fun _ => ?_); clear hK K
                refine F_gen (F := fun W => wpAnyH _ _ _ _ _ _ _ _ W) (J := fun W => Hid (W.ownsRow (w5.heap.size) 23 1 (.slice (some ⟨Wz0.heap.size, 0, none⟩) 0 0) (0) ([])) ∧ Below Wz0.heap.size Wz0 W) (And.intro (Lib.hid (World.ownsRow_lit (base := w5.heap.size) (size := 1) Wz0 #[] 0 zlz16 (by unfold maxLen; omega) rfl)) ((Below.refl _ _).alloc (Nat.le_refl _) _)) ?_
                intro Wz16 ⟨na_ka_z16, hbz16⟩
                have x_k7_z16 : Box Wz16 (g7) (flatR LKey k7) := Box.below x_k7_z0 hbz16
                have x_k8_z16 : Box Wz16 (g8) (flatR LPlc k8) := Box.below x_k8_z0 hbz16
                have Bz16 := below_thru Bz0 hbz16
                clear x_k7_z0 x_k8_z0 Bz0 hbz16
                clear zlz16
                refine wpAnyH_ready (rs := [5, 11]) (by kernel_rfl) (by simp) (AllReadyH.cons rfl (fun K hK => ?_) (AllReadyH.cons rfl (fun K hK => ?_) AllReadyH.nil))
                · skip
                  have zz17 : w5.heap.size ≤ Wz16.heap.size := Below.size Bz16
                  refine step_append_rowsG 72 rfl rfl LKey _ _ 45 rfl (w5.heap.size) 23 tiLKey (.int .u32 0) 1 4 rfl Try.underlying45 hinLKey hz0LKey hz1LKey hz2LKey rfl _ (0) _ rfl na_ka_z16.out _ (k7.take j) rfl (cut_box rfl x_k7_z16 (by rw [LK7.out]; omega) (show _ = _ by simp) (by omega) (by omega)) (by unfold maxLen; have := T7.out; omega) (by have := T7.out; omega) zz17 ?_
                  intro vz17 Wz17 hown hgr
                  have hKB := (Below.refl (w5.heap.size) _).grown hgr zz17 (ownR_block na_ka_z16.out)
                  have x_k7_z17 : Box Wz17 (g7) (flatR LKey k7) := Box.keepR x_k7_z16 hKB (by omega)
                  have x_k8_z17 : Box Wz17 (g8) (flatR LPlc k8) := Box.keepR x_k8_z16 hKB (by omega)
                  rw [Nat.zero_add, List.nil_append, T7.out] at hown
                  obtain ⟨vaz17, vcz17, rfl⟩ := own_slR hown
                  have o_ka_z17 := Lib.hid hown
                  have Bz17 := (Bz16).trans (hKB.mono (by omega))
                  clear x_k7_z16 x_k8_z16 na_ka_z16 Bz16 hown hgr hKB zz17
                  refine hK.out _ _ (And.intro x_k7_z17 x_k8_z17) (fun _ => ?_); clear hK K
                  refine wpAnyH_ready (rs := [10, 11]) (by kernel_rfl) (by simp) (AllReadyH.cons rfl (fun K hK => ?_) (AllReadyH.cons rfl (fun K hK => ?_) AllReadyH.nil))
                  · skip
                    have zz18 : w5.heap.size ≤ Wz17.heap.size := Below.size Bz17
                    refine step_append_rowsG 77 rfl rfl LKey _ _ 45 rfl (w5.heap.size) 23 tiLKey (.int .u32 0) 1 4 rfl Try.underlying45 hinLKey hz0LKey hz1LKey hz2LKey rfl _ (j) _ rfl o_ka_z17.out _ (k7.drop (j + 1)) rfl (cut_boxI rfl x_k7_z17 LK7.out (by omega) rfl (by omega) (by omega)) (by unfold maxLen; have := U7.out; omega) (by have := U7.out; omega) zz18 ?_
                    intro vz18 Wz18 hown hgr
                    have hKB := (Below.refl (w5.heap.size) _).grown hgr zz18 (ownR_block o_ka_z17.out)
                    have x_k7_z18 : Box Wz18 (g7) (flatR LKey k7) := Box.keepR x_k7_z17 hKB (by omega)
                    have x_k8_z18 : Box Wz18 (g8) (flatR LPlc k8) := Box.keepR x_k8_z17 hKB (by omega)
                    rw [HA2.out, U7.out, show j + (n - (j + 1)) = n - 1 by omega] at hown
                    obtain ⟨vaz18, vcz18, rfl⟩ := own_slR hown
                    have o_ka_z18 := Lib.hid hown
                    have Bz18 := (Bz17).trans (hKB.mono (by omega))
                    clear x_k7_z17 x_k8_z17 o_ka_z17 Bz17 hown hgr hKB zz18
                    refine hK.out _ _ (And.intro x_k7_z18 x_k8_z18) (fun _ => ?_); clear hK K
                    refine wpAnyH_ready (rs := [11]) (by kernel_rfl) (by simp) (AllReadyH.cons rfl (fun K hK => ?_) AllReadyH.nil)
                    have zlz19 : w5.heap.size ≤ Wz18.heap.size := Below.size Bz18
                    go_simp
                    refine hK.out _ _ (And.intro (Box.alloc x_k7_z18 _) (Box.alloc x_k8_z18 _)) (fun _ => ?_); clear hK K
                    refine F_gen (F := fun W => wpAnyH _ _ _ _ _ _ _ _ W) (J := fun W => Hid (W.ownsRow (w5.heap.size) 3 1 (.slice (some ⟨Wz18.heap.size, 0, none⟩) 0 0) (0) ([])) ∧ Below Wz18.heap.size Wz18 W) (And.intro (Lib.hid (World.ownsRow_lit (base := w5.heap.size) (size := 1) Wz18 #[] 0 zlz19 (by unfold maxLen; omega) rfl)) ((Below.refl _ _).alloc (Nat.le_refl _) _)) ?_
                    intro Wz19 ⟨na_kb_z19, hbz19⟩
                    have x_k7_z19 : Box Wz19 (g7) (flatR LKey k7) := Box.below x_k7_z18 hbz19
                    have x_k8_z19 : Box Wz19 (g8) (flatR LPlc k8) := Box.below x_k8_z18 hbz19
                    have o_ka_z19 := Lib.hid (ownR_below o_ka_z18.out hbz19)
                    have Bz19 := below_thru Bz18 hbz19
                    clear x_k7_z18 x_k8_z18 o_ka_z18 Bz18 hbz19
                    clear zlz19
                    refine wpAnyH_ready (rs := [15]) (by kernel_rfl) (by simp) (AllReadyH.cons rfl (fun K hK => ?_) AllReadyH.nil)
                    have zz20 : w5.heap.size ≤ Wz19.heap.size := Below.size Bz19
                    refine step_append_rowsG 82 rfl rfl LPlc _ _ 46 rfl (w5.heap.size) 3 tiLPlc (.int .i64 0) 1 8 rfl Try.underlying46 hinLPlc hz0LPlc hz1LPlc hz2LPlc rfl _ (0) _ rfl na_kb_z19.out _ (k8.take j) rfl (cut_box rfl x_k8_z19 (by rw [LK8.out]; omega) (show _ = _ by simp) (by omega) (by omega)) (by unfold maxLen; have := T8.out; omega) (by have := T8.out; omega) zz20 ?_
                    intro vz20 Wz20 hown hgr
                    have hKB := (Below.refl (w5.heap.size) _).grown hgr zz20 (ownR_block na_kb_z19.out)
                    have x_k7_z20 : Box Wz20 (g7) (flatR LKey k7) := Box.keepR x_k7_z19 hKB (by omega)
                    have x_k8_z20 : Box Wz20 (g8) (flatR LPlc k8) := Box.keepR x_k8_z19 hKB (by omega)
                    have o_ka_z20 := Lib.hid (ownR_apart o_ka_z19.out na_kb_z19.out (by decide) hgr)
                    rw [Nat.zero_add, List.nil_append, T8.out] at hown
                    obtain ⟨vaz20, vcz20, rfl⟩ := own_slR hown
                    have o_kb_z20 := Lib.hid hown
                    have Bz20 := (Bz19).trans (hKB.mono (by omega))
                    clear x_k7_z19 x_k8_z19 o_ka_z19 na_kb_z19 Bz19 hown hgr hKB zz20
                    refine hK.out _ _ (And.intro x_k7_z20 x_k8_z20) (fun _ => ?_); clear hK K
                    refine wpAnyH_ready (rs := [20]) (by kernel_rfl) (by simp) (AllReadyH.cons rfl (fun K hK => ?_) AllReadyH.nil)
                    have zz21 : w5.heap.size ≤ Wz20.heap.size := Below.size Bz20
                    refine step_append_rowsG 87 rfl rfl LPlc _ _ 46 rfl (w5.heap.size) 3 tiLPlc (.int .i64 0) 1 8 rfl Try.underlying46 hinLPlc hz0LPlc hz1LPlc hz2LPlc rfl _ (j) _ rfl o_kb_z20.out _ (k8.drop (j + 1)) rfl (cut_boxI rfl x_k8_z20 LK8.out (by omega) rfl (by omega) (by omega)) (by unfold maxLen; have := U8.out; omega) (by have := U8.out; omega) zz21 ?_
                    intro vz21 Wz21 hown hgr
                    have hKB := (Below.refl (w5.heap.size) _).grown hgr zz21 (ownR_block o_kb_z20.out)
                    have x_k7_z21 : Box Wz21 (g7) (flatR LKey k7) := Box.keepR x_k7_z20 hKB (by omega)
                    have x_k8_z21 : Box Wz21 (g8) (flatR LPlc k8) := Box.keepR x_k8_z20 hKB (by omega)
                    have o_ka_z21 := Lib.hid (ownR_apart o_ka_z20.out o_kb_z20.out (by decide) hgr)
                    rw [HB2.out, U8.out, show j + (n - (j + 1)) = n - 1 by omega] at hown
                    obtain ⟨vaz21, vcz21, rfl⟩ := own_slR hown
                    have o_kb_z21 := Lib.hid hown
                    have Bz21 := (Bz20).trans (hKB.mono (by omega))
                    clear x_k7_z20 x_k8_z20 o_ka_z20 o_kb_z20 Bz20 hown hgr hKB zz21
                    refine hK.out _ _ (And.intro x_k7_z21 x_k8_z21) (fun _ => ?_); clear hK K
                    refine takeH 21 6 (v := ?vz21_22) rfl (by rfl) (by kernel_rfl) (by kernel_rfl) (by kernel_rfl) (fun _ _ _ h => h) (Or.inl ⟨by rfl, ?_⟩) ((And.intro x_k7_z21 x_k8_z21)) ?_
                    rotate_left
                    · intro wq hSq
                      go_simp
                      exact rfl
                    try simp only [Act.put, List.setIfInBounds_toArray, List.set_cons_zero, List.set_cons_succ]
                    refine takeH 22 7 (v := ?vz22_23) rfl (by rfl) (by kernel_rfl) (by kernel_rfl) (by kernel_rfl) (fun _ _ _ h => h) (Or.inl ⟨by rfl, ?_⟩) ((And.intro x_k7_z21 x_k8_z21)) ?_
                    rotate_left
                    · intro wq hSq
                      go_simp
                      exact rfl
                    try simp only [Act.put, List.setIfInBounds_toArray, List.set_cons_zero, List.set_cons_succ]
                    refine takeH 23 8 (v := ?vz23_24) rfl (by rfl) (by kernel_rfl) (by kernel_rfl) (by kernel_rfl) (fun _ _ _ h => h) (Or.inl ⟨by rfl, ?_⟩) ((And.intro x_k7_z21 x_k8_z21)) ?_
                    rotate_left
                    · intro wq hSq
                      go_simp
                      exact rfl
                    try simp only [Act.put, List.setIfInBounds_toArray, List.set_cons_zero, List.set_cons_succ]
                    refine wpAnyH_done (by kernel_rfl) ?_ _
                    go_wp2_with fail
                    all_goals (go_meet; exact ⟨rfl, o_ka_z21, o_kb_z21, Bz21⟩)
                  · skip
                    have zlz25 : w5.heap.size ≤ Wz17.heap.size := Below.size Bz17
                    go_simp
                    refine hK.out _ _ (And.intro (Box.alloc x_k7_z17 _) (Box.alloc x_k8_z17 _)) (fun _ => ?_); clear hK K
                    refine F_gen (F := fun W => wpAnyH _ _ _ _ _ _ _ _ W) (J := fun W => Hid (W.ownsRow (w5.heap.size) 3 1 (.slice (some ⟨Wz17.heap.size, 0, none⟩) 0 0) (0) ([])) ∧ Below Wz17.heap.size Wz17 W) (And.intro (Lib.hid (World.ownsRow_lit (base := w5.heap.size) (size := 1) Wz17 #[] 0 zlz25 (by unfold maxLen; omega) rfl)) ((Below.refl _ _).alloc (Nat.le_refl _) _)) ?_
                    intro Wz25 ⟨na_kb_z25, hbz25⟩
                    have x_k7_z25 : Box Wz25 (g7) (flatR LKey k7) := Box.below x_k7_z17 hbz25
                    have x_k8_z25 : Box Wz25 (g8) (flatR LPlc k8) := Box.below x_k8_z17 hbz25
                    have o_ka_z25 := Lib.hid (ownR_below o_ka_z17.out hbz25)
                    have Bz25 := below_thru Bz17 hbz25
                    clear x_k7_z17 x_k8_z17 o_ka_z17 Bz17 hbz25
                    clear zlz25
                    refine wpAnyH_ready (rs := [10]) (by kernel_rfl) (by simp) (AllReadyH.cons rfl (fun K hK => ?_) AllReadyH.nil)
                    have zz26 : w5.heap.size ≤ Wz25.heap.size := Below.size Bz25
                    refine step_append_rowsG 77 rfl rfl LKey _ _ 45 rfl (w5.heap.size) 23 tiLKey (.int .u32 0) 1 4 rfl Try.underlying45 hinLKey hz0LKey hz1LKey hz2LKey rfl _ (j) _ rfl o_ka_z25.out _ (k7.drop (j + 1)) rfl (cut_boxI rfl x_k7_z25 LK7.out (by omega) rfl (by omega) (by omega)) (by unfold maxLen; have := U7.out; omega) (by have := U7.out; omega) zz26 ?_
                    intro vz26 Wz26 hown hgr
                    have hKB := (Below.refl (w5.heap.size) _).grown hgr zz26 (ownR_block o_ka_z25.out)
                    have x_k7_z26 : Box Wz26 (g7) (flatR LKey k7) := Box.keepR x_k7_z25 hKB (by omega)
                    have x_k8_z26 : Box Wz26 (g8) (flatR LPlc k8) := Box.keepR x_k8_z25 hKB (by omega)
                    have o_kb_z26 := Lib.hid (ownR_apart na_kb_z25.out o_ka_z25.out (by decide) hgr)
                    rw [HA2.out, U7.out, show j + (n - (j + 1)) = n - 1 by omega] at hown
                    obtain ⟨vaz26, vcz26, rfl⟩ := own_slR hown
                    have o_ka_z26 := Lib.hid hown
                    have Bz26 := (Bz25).trans (hKB.mono (by omega))
                    clear x_k7_z25 x_k8_z25 na_kb_z25 o_ka_z25 Bz25 hown hgr hKB zz26
                    refine hK.out _ _ (And.intro x_k7_z26 x_k8_z26) (fun _ => ?_); clear hK K
                    refine wpAnyH_ready (rs := [15]) (by kernel_rfl) (by simp) (AllReadyH.cons rfl (fun K hK => ?_) AllReadyH.nil)
                    have zz27 : w5.heap.size ≤ Wz26.heap.size := Below.size Bz26
                    refine step_append_rowsG 82 rfl rfl LPlc _ _ 46 rfl (w5.heap.size) 3 tiLPlc (.int .i64 0) 1 8 rfl Try.underlying46 hinLPlc hz0LPlc hz1LPlc hz2LPlc rfl _ (0) _ rfl o_kb_z26.out _ (k8.take j) rfl (cut_box rfl x_k8_z26 (by rw [LK8.out]; omega) (show _ = _ by simp) (by omega) (by omega)) (by unfold maxLen; have := T8.out; omega) (by have := T8.out; omega) zz27 ?_
                    intro vz27 Wz27 hown hgr
                    have hKB := (Below.refl (w5.heap.size) _).grown hgr zz27 (ownR_block o_kb_z26.out)
                    have x_k7_z27 : Box Wz27 (g7) (flatR LKey k7) := Box.keepR x_k7_z26 hKB (by omega)
                    have x_k8_z27 : Box Wz27 (g8) (flatR LPlc k8) := Box.keepR x_k8_z26 hKB (by omega)
                    have o_ka_z27 := Lib.hid (ownR_apart o_ka_z26.out o_kb_z26.out (by decide) hgr)
                    rw [Nat.zero_add, List.nil_append, T8.out] at hown
                    obtain ⟨vaz27, vcz27, rfl⟩ := own_slR hown
                    have o_kb_z27 := Lib.hid hown
                    have Bz27 := (Bz26).trans (hKB.mono (by omega))
                    clear x_k7_z26 x_k8_z26 o_ka_z26 o_kb_z26 Bz26 hown hgr hKB zz27
                    refine hK.out _ _ (And.intro x_k7_z27 x_k8_z27) (fun _ => ?_); clear hK K
                    refine wpAnyH_ready (rs := [20]) (by kernel_rfl) (by simp) (AllReadyH.cons rfl (fun K hK => ?_) AllReadyH.nil)
                    have zz28 : w5.heap.size ≤ Wz27.heap.size := Below.size Bz27
                    refine step_append_rowsG 87 rfl rfl LPlc _ _ 46 rfl (w5.heap.size) 3 tiLPlc (.int .i64 0) 1 8 rfl Try.underlying46 hinLPlc hz0LPlc hz1LPlc hz2LPlc rfl _ (j) _ rfl o_kb_z27.out _ (k8.drop (j + 1)) rfl (cut_boxI rfl x_k8_z27 LK8.out (by omega) rfl (by omega) (by omega)) (by unfold maxLen; have := U8.out; omega) (by have := U8.out; omega) zz28 ?_
                    intro vz28 Wz28 hown hgr
                    have hKB := (Below.refl (w5.heap.size) _).grown hgr zz28 (ownR_block o_kb_z27.out)
                    have x_k7_z28 : Box Wz28 (g7) (flatR LKey k7) := Box.keepR x_k7_z27 hKB (by omega)
                    have x_k8_z28 : Box Wz28 (g8) (flatR LPlc k8) := Box.keepR x_k8_z27 hKB (by omega)
                    have o_ka_z28 := Lib.hid (ownR_apart o_ka_z27.out o_kb_z27.out (by decide) hgr)
                    rw [HB2.out, U8.out, show j + (n - (j + 1)) = n - 1 by omega] at hown
                    obtain ⟨vaz28, vcz28, rfl⟩ := own_slR hown
                    have o_kb_z28 := Lib.hid hown
                    have Bz28 := (Bz27).trans (hKB.mono (by omega))
                    clear x_k7_z27 x_k8_z27 o_ka_z27 o_kb_z27 Bz27 hown hgr hKB zz28
                    refine hK.out _ _ (And.intro x_k7_z28 x_k8_z28) (fun _ => ?_); clear hK K
                    refine takeH 21 6 (v := ?vz21_29) rfl (by rfl) (by kernel_rfl) (by kernel_rfl) (by kernel_rfl) (fun _ _ _ h => h) (Or.inl ⟨by rfl, ?_⟩) ((And.intro x_k7_z28 x_k8_z28)) ?_
                    rotate_left
                    · intro wq hSq
                      go_simp
                      exact rfl
                    try simp only [Act.put, List.setIfInBounds_toArray, List.set_cons_zero, List.set_cons_succ]
                    refine takeH 22 7 (v := ?vz22_30) rfl (by rfl) (by kernel_rfl) (by kernel_rfl) (by kernel_rfl) (fun _ _ _ h => h) (Or.inl ⟨by rfl, ?_⟩) ((And.intro x_k7_z28 x_k8_z28)) ?_
                    rotate_left
                    · intro wq hSq
                      go_simp
                      exact rfl
                    try simp only [Act.put, List.setIfInBounds_toArray, List.set_cons_zero, List.set_cons_succ]
                    refine takeH 23 8 (v := ?vz23_31) rfl (by rfl) (by kernel_rfl) (by kernel_rfl) (by kernel_rfl) (fun _ _ _ h => h) (Or.inl ⟨by rfl, ?_⟩) ((And.intro x_k7_z28 x_k8_z28)) ?_
                    rotate_left
                    · intro wq hSq
                      go_simp
                      exact rfl
                    try simp only [Act.put, List.setIfInBounds_toArray, List.set_cons_zero, List.set_cons_succ]
                    refine wpAnyH_done (by kernel_rfl) ?_ _
                    go_wp2_with fail
                    all_goals (go_meet; exact ⟨rfl, o_ka_z28, o_kb_z28, Bz28⟩)
                · skip
                  have zlz32 : w5.heap.size ≤ Wz16.heap.size := Below.size Bz16
                  go_simp
                  refine hK.out _ _ (And.intro (Box.alloc x_k7_z16 _) (Box.alloc x_k8_z16 _)) (fun _ => ?_); clear hK K
                  refine F_gen (F := fun W => wpAnyH _ _ _ _ _ _ _ _ W) (J := fun W => Hid (W.ownsRow (w5.heap.size) 3 1 (.slice (some ⟨Wz16.heap.size, 0, none⟩) 0 0) (0) ([])) ∧ Below Wz16.heap.size Wz16 W) (And.intro (Lib.hid (World.ownsRow_lit (base := w5.heap.size) (size := 1) Wz16 #[] 0 zlz32 (by unfold maxLen; omega) rfl)) ((Below.refl _ _).alloc (Nat.le_refl _) _)) ?_
                  intro Wz32 ⟨na_kb_z32, hbz32⟩
                  have x_k7_z32 : Box Wz32 (g7) (flatR LKey k7) := Box.below x_k7_z16 hbz32
                  have x_k8_z32 : Box Wz32 (g8) (flatR LPlc k8) := Box.below x_k8_z16 hbz32
                  have o_ka_z32 := Lib.hid (ownR_below na_ka_z16.out hbz32)
                  have Bz32 := below_thru Bz16 hbz32
                  clear x_k7_z16 x_k8_z16 na_ka_z16 Bz16 hbz32
                  clear zlz32
                  refine wpAnyH_ready (rs := [5]) (by kernel_rfl) (by simp) (AllReadyH.cons rfl (fun K hK => ?_) AllReadyH.nil)
                  have zz33 : w5.heap.size ≤ Wz32.heap.size := Below.size Bz32
                  refine step_append_rowsG 72 rfl rfl LKey _ _ 45 rfl (w5.heap.size) 23 tiLKey (.int .u32 0) 1 4 rfl Try.underlying45 hinLKey hz0LKey hz1LKey hz2LKey rfl _ (0) _ rfl o_ka_z32.out _ (k7.take j) rfl (cut_box rfl x_k7_z32 (by rw [LK7.out]; omega) (show _ = _ by simp) (by omega) (by omega)) (by unfold maxLen; have := T7.out; omega) (by have := T7.out; omega) zz33 ?_
                  intro vz33 Wz33 hown hgr
                  have hKB := (Below.refl (w5.heap.size) _).grown hgr zz33 (ownR_block o_ka_z32.out)
                  have x_k7_z33 : Box Wz33 (g7) (flatR LKey k7) := Box.keepR x_k7_z32 hKB (by omega)
                  have x_k8_z33 : Box Wz33 (g8) (flatR LPlc k8) := Box.keepR x_k8_z32 hKB (by omega)
                  have o_kb_z33 := Lib.hid (ownR_apart na_kb_z32.out o_ka_z32.out (by decide) hgr)
                  rw [Nat.zero_add, List.nil_append, T7.out] at hown
                  obtain ⟨vaz33, vcz33, rfl⟩ := own_slR hown
                  have o_ka_z33 := Lib.hid hown
                  have Bz33 := (Bz32).trans (hKB.mono (by omega))
                  clear x_k7_z32 x_k8_z32 na_kb_z32 o_ka_z32 Bz32 hown hgr hKB zz33
                  refine hK.out _ _ (And.intro x_k7_z33 x_k8_z33) (fun _ => ?_); clear hK K
                  refine wpAnyH_ready (rs := [10]) (by kernel_rfl) (by simp) (AllReadyH.cons rfl (fun K hK => ?_) AllReadyH.nil)
                  have zz34 : w5.heap.size ≤ Wz33.heap.size := Below.size Bz33
                  refine step_append_rowsG 77 rfl rfl LKey _ _ 45 rfl (w5.heap.size) 23 tiLKey (.int .u32 0) 1 4 rfl Try.underlying45 hinLKey hz0LKey hz1LKey hz2LKey rfl _ (j) _ rfl o_ka_z33.out _ (k7.drop (j + 1)) rfl (cut_boxI rfl x_k7_z33 LK7.out (by omega) rfl (by omega) (by omega)) (by unfold maxLen; have := U7.out; omega) (by have := U7.out; omega) zz34 ?_
                  intro vz34 Wz34 hown hgr
                  have hKB := (Below.refl (w5.heap.size) _).grown hgr zz34 (ownR_block o_ka_z33.out)
                  have x_k7_z34 : Box Wz34 (g7) (flatR LKey k7) := Box.keepR x_k7_z33 hKB (by omega)
                  have x_k8_z34 : Box Wz34 (g8) (flatR LPlc k8) := Box.keepR x_k8_z33 hKB (by omega)
                  have o_kb_z34 := Lib.hid (ownR_apart o_kb_z33.out o_ka_z33.out (by decide) hgr)
                  rw [HA2.out, U7.out, show j + (n - (j + 1)) = n - 1 by omega] at hown
                  obtain ⟨vaz34, vcz34, rfl⟩ := own_slR hown
                  have o_ka_z34 := Lib.hid hown
                  have Bz34 := (Bz33).trans (hKB.mono (by omega))
                  clear x_k7_z33 x_k8_z33 o_kb_z33 o_ka_z33 Bz33 hown hgr hKB zz34
                  refine hK.out _ _ (And.intro x_k7_z34 x_k8_z34) (fun _ => ?_); clear hK K
                  refine wpAnyH_ready (rs := [15]) (by kernel_rfl) (by simp) (AllReadyH.cons rfl (fun K hK => ?_) AllReadyH.nil)
                  have zz35 : w5.heap.size ≤ Wz34.heap.size := Below.size Bz34
                  refine step_append_rowsG 82 rfl rfl LPlc _ _ 46 rfl (w5.heap.size) 3 tiLPlc (.int .i64 0) 1 8 rfl Try.underlying46 hinLPlc hz0LPlc hz1LPlc hz2LPlc rfl _ (0) _ rfl o_kb_z34.out _ (k8.take j) rfl (cut_box rfl x_k8_z34 (by rw [LK8.out]; omega) (show _ = _ by simp) (by omega) (by omega)) (by unfold maxLen; have := T8.out; omega) (by have := T8.out; omega) zz35 ?_
                  intro vz35 Wz35 hown hgr
                  have hKB := (Below.refl (w5.heap.size) _).grown hgr zz35 (ownR_block o_kb_z34.out)
                  have x_k7_z35 : Box Wz35 (g7) (flatR LKey k7) := Box.keepR x_k7_z34 hKB (by omega)
                  have x_k8_z35 : Box Wz35 (g8) (flatR LPlc k8) := Box.keepR x_k8_z34 hKB (by omega)
                  have o_ka_z35 := Lib.hid (ownR_apart o_ka_z34.out o_kb_z34.out (by decide) hgr)
                  rw [Nat.zero_add, List.nil_append, T8.out] at hown
                  obtain ⟨vaz35, vcz35, rfl⟩ := own_slR hown
                  have o_kb_z35 := Lib.hid hown
                  have Bz35 := (Bz34).trans (hKB.mono (by omega))
                  clear x_k7_z34 x_k8_z34 o_ka_z34 o_kb_z34 Bz34 hown hgr hKB zz35
                  refine hK.out _ _ (And.intro x_k7_z35 x_k8_z35) (fun _ => ?_); clear hK K
                  refine wpAnyH_ready (rs := [20]) (by kernel_rfl) (by simp) (AllReadyH.cons rfl (fun K hK => ?_) AllReadyH.nil)
                  have zz36 : w5.heap.size ≤ Wz35.heap.size := Below.size Bz35
                  refine step_append_rowsG 87 rfl rfl LPlc _ _ 46 rfl (w5.heap.size) 3 tiLPlc (.int .i64 0) 1 8 rfl Try.underlying46 hinLPlc hz0LPlc hz1LPlc hz2LPlc rfl _ (j) _ rfl o_kb_z35.out _ (k8.drop (j + 1)) rfl (cut_boxI rfl x_k8_z35 LK8.out (by omega) rfl (by omega) (by omega)) (by unfold maxLen; have := U8.out; omega) (by have := U8.out; omega) zz36 ?_
                  intro vz36 Wz36 hown hgr
                  have hKB := (Below.refl (w5.heap.size) _).grown hgr zz36 (ownR_block o_kb_z35.out)
                  have x_k7_z36 : Box Wz36 (g7) (flatR LKey k7) := Box.keepR x_k7_z35 hKB (by omega)
                  have x_k8_z36 : Box Wz36 (g8) (flatR LPlc k8) := Box.keepR x_k8_z35 hKB (by omega)
                  have o_ka_z36 := Lib.hid (ownR_apart o_ka_z35.out o_kb_z35.out (by decide) hgr)
                  rw [HB2.out, U8.out, show j + (n - (j + 1)) = n - 1 by omega] at hown
                  obtain ⟨vaz36, vcz36, rfl⟩ := own_slR hown
                  have o_kb_z36 := Lib.hid hown
                  have Bz36 := (Bz35).trans (hKB.mono (by omega))
                  clear x_k7_z35 x_k8_z35 o_ka_z35 o_kb_z35 Bz35 hown hgr hKB zz36
                  refine hK.out _ _ (And.intro x_k7_z36 x_k8_z36) (fun _ => ?_); clear hK K
                  refine takeH 21 6 (v := ?vz21_37) rfl (by rfl) (by kernel_rfl) (by kernel_rfl) (by kernel_rfl) (fun _ _ _ h => h) (Or.inl ⟨by rfl, ?_⟩) ((And.intro x_k7_z36 x_k8_z36)) ?_
                  rotate_left
                  · intro wq hSq
                    go_simp
                    exact rfl
                  try simp only [Act.put, List.setIfInBounds_toArray, List.set_cons_zero, List.set_cons_succ]
                  refine takeH 22 7 (v := ?vz22_38) rfl (by rfl) (by kernel_rfl) (by kernel_rfl) (by kernel_rfl) (fun _ _ _ h => h) (Or.inl ⟨by rfl, ?_⟩) ((And.intro x_k7_z36 x_k8_z36)) ?_
                  rotate_left
                  · intro wq hSq
                    go_simp
                    exact rfl
                  try simp only [Act.put, List.setIfInBounds_toArray, List.set_cons_zero, List.set_cons_succ]
                  refine takeH 23 8 (v := ?vz23_39) rfl (by rfl) (by kernel_rfl) (by kernel_rfl) (by kernel_rfl) (fun _ _ _ h => h) (Or.inl ⟨by rfl, ?_⟩) ((And.intro x_k7_z36 x_k8_z36)) ?_
                  rotate_left
                  · intro wq hSq
                    go_simp
                    exact rfl
                  try simp only [Act.put, List.setIfInBounds_toArray, List.set_cons_zero, List.set_cons_succ]
                  refine wpAnyH_done (by kernel_rfl) ?_ _
                  go_wp2_with fail
                  all_goals (go_meet; exact ⟨rfl, o_ka_z36, o_kb_z36, Bz36⟩)
              · skip
                have zlz40 : w5.heap.size ≤ Wz0.heap.size := Below.size Bz0
                go_simp
                refine hK.out _ _ (And.intro (Box.alloc x_k7_z0 _) (Box.alloc x_k8_z0 _)) (fun _ => ?_); clear hK K
                refine F_gen (F := fun W => wpAnyH _ _ _ _ _ _ _ _ W) (J := fun W => Hid (W.ownsRow (w5.heap.size) 3 1 (.slice (some ⟨Wz0.heap.size, 0, none⟩) 0 0) (0) ([])) ∧ Below Wz0.heap.size Wz0 W) (And.intro (Lib.hid (World.ownsRow_lit (base := w5.heap.size) (size := 1) Wz0 #[] 0 zlz40 (by unfold maxLen; omega) rfl)) ((Below.refl _ _).alloc (Nat.le_refl _) _)) ?_
                intro Wz40 ⟨na_kb_z40, hbz40⟩
                have x_k7_z40 : Box Wz40 (g7) (flatR LKey k7) := Box.below x_k7_z0 hbz40
                have x_k8_z40 : Box Wz40 (g8) (flatR LPlc k8) := Box.below x_k8_z0 hbz40
                have Bz40 := below_thru Bz0 hbz40
                clear x_k7_z0 x_k8_z0 Bz0 hbz40
                clear zlz40
                refine wpAnyH_ready (rs := [1]) (by kernel_rfl) (by simp) (AllReadyH.cons rfl (fun K hK => ?_) AllReadyH.nil)
                have zlz41 : w5.heap.size ≤ Wz40.heap.size := Below.size Bz40
                go_simp
                refine hK.out _ _ (And.intro (Box.alloc x_k7_z40 _) (Box.alloc x_k8_z40 _)) (fun _ => ?_); clear hK K
                refine F_gen (F := fun W => wpAnyH _ _ _ _ _ _ _ _ W) (J := fun W => Hid (W.ownsRow (w5.heap.size) 23 1 (.slice (some ⟨Wz40.heap.size, 0, none⟩) 0 0) (0) ([])) ∧ Below Wz40.heap.size Wz40 W) (And.intro (Lib.hid (World.ownsRow_lit (base := w5.heap.size) (size := 1) Wz40 #[] 0 zlz41 (by unfold maxLen; omega) rfl)) ((Below.refl _ _).alloc (Nat.le_refl _) _)) ?_
                intro Wz41 ⟨na_ka_z41, hbz41⟩
                have x_k7_z41 : Box Wz41 (g7) (flatR LKey k7) := Box.below x_k7_z40 hbz41
                have x_k8_z41 : Box Wz41 (g8) (flatR LPlc k8) := Box.below x_k8_z40 hbz41
                have o_kb_z41 := Lib.hid (ownR_below na_kb_z40.out hbz41)
                have Bz41 := below_thru Bz40 hbz41
                clear x_k7_z40 x_k8_z40 na_kb_z40 Bz40 hbz41
                clear zlz41
                refine wpAnyH_ready (rs := [5]) (by kernel_rfl) (by simp) (AllReadyH.cons rfl (fun K hK => ?_) AllReadyH.nil)
                have zz42 : w5.heap.size ≤ Wz41.heap.size := Below.size Bz41
                refine step_append_rowsG 72 rfl rfl LKey _ _ 45 rfl (w5.heap.size) 23 tiLKey (.int .u32 0) 1 4 rfl Try.underlying45 hinLKey hz0LKey hz1LKey hz2LKey rfl _ (0) _ rfl na_ka_z41.out _ (k7.take j) rfl (cut_box rfl x_k7_z41 (by rw [LK7.out]; omega) (show _ = _ by simp) (by omega) (by omega)) (by unfold maxLen; have := T7.out; omega) (by have := T7.out; omega) zz42 ?_
                intro vz42 Wz42 hown hgr
                have hKB := (Below.refl (w5.heap.size) _).grown hgr zz42 (ownR_block na_ka_z41.out)
                have x_k7_z42 : Box Wz42 (g7) (flatR LKey k7) := Box.keepR x_k7_z41 hKB (by omega)
                have x_k8_z42 : Box Wz42 (g8) (flatR LPlc k8) := Box.keepR x_k8_z41 hKB (by omega)
                have o_kb_z42 := Lib.hid (ownR_apart o_kb_z41.out na_ka_z41.out (by decide) hgr)
                rw [Nat.zero_add, List.nil_append, T7.out] at hown
                obtain ⟨vaz42, vcz42, rfl⟩ := own_slR hown
                have o_ka_z42 := Lib.hid hown
                have Bz42 := (Bz41).trans (hKB.mono (by omega))
                clear x_k7_z41 x_k8_z41 o_kb_z41 na_ka_z41 Bz41 hown hgr hKB zz42
                refine hK.out _ _ (And.intro x_k7_z42 x_k8_z42) (fun _ => ?_); clear hK K
                refine wpAnyH_ready (rs := [10]) (by kernel_rfl) (by simp) (AllReadyH.cons rfl (fun K hK => ?_) AllReadyH.nil)
                have zz43 : w5.heap.size ≤ Wz42.heap.size := Below.size Bz42
                refine step_append_rowsG 77 rfl rfl LKey _ _ 45 rfl (w5.heap.size) 23 tiLKey (.int .u32 0) 1 4 rfl Try.underlying45 hinLKey hz0LKey hz1LKey hz2LKey rfl _ (j) _ rfl o_ka_z42.out _ (k7.drop (j + 1)) rfl (cut_boxI rfl x_k7_z42 LK7.out (by omega) rfl (by omega) (by omega)) (by unfold maxLen; have := U7.out; omega) (by have := U7.out; omega) zz43 ?_
                intro vz43 Wz43 hown hgr
                have hKB := (Below.refl (w5.heap.size) _).grown hgr zz43 (ownR_block o_ka_z42.out)
                have x_k7_z43 : Box Wz43 (g7) (flatR LKey k7) := Box.keepR x_k7_z42 hKB (by omega)
                have x_k8_z43 : Box Wz43 (g8) (flatR LPlc k8) := Box.keepR x_k8_z42 hKB (by omega)
                have o_kb_z43 := Lib.hid (ownR_apart o_kb_z42.out o_ka_z42.out (by decide) hgr)
                rw [HA2.out, U7.out, show j + (n - (j + 1)) = n - 1 by omega] at hown
                obtain ⟨vaz43, vcz43, rfl⟩ := own_slR hown
                have o_ka_z43 := Lib.hid hown
                have Bz43 := (Bz42).trans (hKB.mono (by omega))
                clear x_k7_z42 x_k8_z42 o_kb_z42 o_ka_z42 Bz42 hown hgr hKB zz43
                refine hK.out _ _ (And.intro x_k7_z43 x_k8_z43) (fun _ => ?_); clear hK K
                refine wpAnyH_ready (rs := [15]) (by kernel_rfl) (by simp) (AllReadyH.cons rfl (fun K hK => ?_) AllReadyH.nil)
                have zz44 : w5.heap.size ≤ Wz43.heap.size := Below.size Bz43
                refine step_append_rowsG 82 rfl rfl LPlc _ _ 46 rfl (w5.heap.size) 3 tiLPlc (.int .i64 0) 1 8 rfl Try.underlying46 hinLPlc hz0LPlc hz1LPlc hz2LPlc rfl _ (0) _ rfl o_kb_z43.out _ (k8.take j) rfl (cut_box rfl x_k8_z43 (by rw [LK8.out]; omega) (show _ = _ by simp) (by omega) (by omega)) (by unfold maxLen; have := T8.out; omega) (by have := T8.out; omega) zz44 ?_
                intro vz44 Wz44 hown hgr
                have hKB := (Below.refl (w5.heap.size) _).grown hgr zz44 (ownR_block o_kb_z43.out)
                have x_k7_z44 : Box Wz44 (g7) (flatR LKey k7) := Box.keepR x_k7_z43 hKB (by omega)
                have x_k8_z44 : Box Wz44 (g8) (flatR LPlc k8) := Box.keepR x_k8_z43 hKB (by omega)
                have o_ka_z44 := Lib.hid (ownR_apart o_ka_z43.out o_kb_z43.out (by decide) hgr)
                rw [Nat.zero_add, List.nil_append, T8.out] at hown
                obtain ⟨vaz44, vcz44, rfl⟩ := own_slR hown
                have o_kb_z44 := Lib.hid hown
                have Bz44 := (Bz43).trans (hKB.mono (by omega))
                clear x_k7_z43 x_k8_z43 o_ka_z43 o_kb_z43 Bz43 hown hgr hKB zz44
                refine hK.out _ _ (And.intro x_k7_z44 x_k8_z44) (fun _ => ?_); clear hK K
                refine wpAnyH_ready (rs := [20]) (by kernel_rfl) (by simp) (AllReadyH.cons rfl (fun K hK => ?_) AllReadyH.nil)
                have zz45 : w5.heap.size ≤ Wz44.heap.size := Below.size Bz44
                refine step_append_rowsG 87 rfl rfl LPlc _ _ 46 rfl (w5.heap.size) 3 tiLPlc (.int .i64 0) 1 8 rfl Try.underlying46 hinLPlc hz0LPlc hz1LPlc hz2LPlc rfl _ (j) _ rfl o_kb_z44.out _ (k8.drop (j + 1)) rfl (cut_boxI rfl x_k8_z44 LK8.out (by omega) rfl (by omega) (by omega)) (by unfold maxLen; have := U8.out; omega) (by have := U8.out; omega) zz45 ?_
                intro vz45 Wz45 hown hgr
                have hKB := (Below.refl (w5.heap.size) _).grown hgr zz45 (ownR_block o_kb_z44.out)
                have x_k7_z45 : Box Wz45 (g7) (flatR LKey k7) := Box.keepR x_k7_z44 hKB (by omega)
                have x_k8_z45 : Box Wz45 (g8) (flatR LPlc k8) := Box.keepR x_k8_z44 hKB (by omega)
                have o_ka_z45 := Lib.hid (ownR_apart o_ka_z44.out o_kb_z44.out (by decide) hgr)
                rw [HB2.out, U8.out, show j + (n - (j + 1)) = n - 1 by omega] at hown
                obtain ⟨vaz45, vcz45, rfl⟩ := own_slR hown
                have o_kb_z45 := Lib.hid hown
                have Bz45 := (Bz44).trans (hKB.mono (by omega))
                clear x_k7_z44 x_k8_z44 o_ka_z44 o_kb_z44 Bz44 hown hgr hKB zz45
                refine hK.out _ _ (And.intro x_k7_z45 x_k8_z45) (fun _ => ?_); clear hK K
                refine takeH 21 6 (v := ?vz21_46) rfl (by rfl) (by kernel_rfl) (by kernel_rfl) (by kernel_rfl) (fun _ _ _ h => h) (Or.inl ⟨by rfl, ?_⟩) ((And.intro x_k7_z45 x_k8_z45)) ?_
                rotate_left
                · intro wq hSq
                  go_simp
                  exact rfl
                try simp only [Act.put, List.setIfInBounds_toArray, List.set_cons_zero, List.set_cons_succ]
                refine takeH 22 7 (v := ?vz22_47) rfl (by rfl) (by kernel_rfl) (by kernel_rfl) (by kernel_rfl) (fun _ _ _ h => h) (Or.inl ⟨by rfl, ?_⟩) ((And.intro x_k7_z45 x_k8_z45)) ?_
                rotate_left
                · intro wq hSq
                  go_simp
                  exact rfl
                try simp only [Act.put, List.setIfInBounds_toArray, List.set_cons_zero, List.set_cons_succ]
                refine takeH 23 8 (v := ?vz23_48) rfl (by rfl) (by kernel_rfl) (by kernel_rfl) (by kernel_rfl) (fun _ _ _ h => h) (Or.inl ⟨by rfl, ?_⟩) ((And.intro x_k7_z45 x_k8_z45)) ?_
                rotate_left
                · intro wq hSq
                  go_simp
                  exact rfl
                try simp only [Act.put, List.setIfInBounds_toArray, List.set_cons_zero, List.set_cons_succ]
                refine wpAnyH_done (by kernel_rfl) ?_ _
                go_wp2_with fail
                all_goals (go_meet; exact ⟨rfl, o_ka_z45, o_kb_z45, Bz45⟩)
            case rest =>
              clear y7 y8 j0 j1 j2 j3 j4 j5 j6 j7 j8 j9 Wj HA2 HB2 HA HB T7 T8 U7 U8 hinLKey hz0LKey hz1LKey hz2LKey hinLPlc hz0LPlc hz1LPlc hz2LPlc
              obtain ⟨rfl, O7, O8, hW⟩ := hcut
              obtain ⟨w7, rfl⟩ : ∃ v : World, v = wc := ⟨_, rfl⟩
              have RY := RY0.below hW; have P7 := ownR_base O7.out hs5; have P8 := ownR_base O8.out hs5; have hB7 := below_thru hB5 hW; have hW7 := hB7.size; clear RY0 O7 O8 hB5 hW; obtain ⟨a6, c6, rfl⟩ := own_slR P7; obtain ⟨a9, c9, rfl⟩ := own_slR P8; have CY := CN Y HYl.out; rw [HYc.out] at CY
              go_wp2_with fail
              refine (CK Y _ HS2.out _ _ RY.isR).mono ?_
              rintro e w88 ⟨rfl, hb⟩
              have RY8 := RY.below hb; have P78 := ownR_below P7 hb; have P88 := ownR_below P8 hb; have hB8 := below_thru hB7 hb; clear hb RY P7 P8 hB7
              go_wp2_with fail
              refine (CY _ _ RY8.isR).mono ?_
              rintro e w89 ⟨rfl, hb⟩
              have RY9 := Lib.hid (RY8.below hb); have P79 := ownR_below P78 hb; have P89 := ownR_below P88 hb; have hB9 := below_thru hB8 hb; clear hb RY8 P78 P88 hB8
              go_wp2_with fail
              go_roundw
              case rel => exact ⟨i + 1, Y, ab.take j ++ ab.drop (j + 1), by omega, by go_num, HS2, RY9, Lib.hid (by rw [HLn.out, HM7.out]; exact P79), Lib.hid (by rw [HLn.out, HM8.out]; exact P89), hB9⟩
              case measure => simp [intOf]; omega

theorem exact14_is {v : Value} {l : List Int} {key : Int} (hky : ∀ k ∈ l, 0 ≤ k ∧ k ≤ 4294967295) (w : World) (h1 : IsR LKey w v l) : Calls Try.prog 6 #[v, .int .u32 key] w fun e w' => e = .returned (.bool true) ∧ Below w.heap.size w w' := by
  by_cases h : 60 < l.length
  · exact exact14_a h w h1
  · exact exact14_b (by omega) hky w h1


end Go.Proofs.Ytalfnmlbidohcaa
