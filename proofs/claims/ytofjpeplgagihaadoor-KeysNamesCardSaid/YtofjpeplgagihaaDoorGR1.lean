/-
  The reference of layer 5: words out of bytes, append that keeps the old row, the constants, the first words.
  The reference of layer 5: a block taken in.
  The reference of layer 5: digests, all whole blocks, paddings.
  The reference of layer 5: valid hashes, Pad, Block, Of, Sum, Start; and what both answer, in one form.
  The reference of layer 5: Of, Sum.
-/
import Derived.Test.YtofjpeplgagihaaDoorGS2
import Derived.Deep.AppendLies

namespace Go.Proofs.YtofjpeplgagihaaDoor
open Go.RowKit

theorem part_next (b : List Int) (j m : Nat) (h : un (part b j m) * 256 < 4294967296) (h0 : 0 ≤ nth b (4 * j + m)) (h1 : nth b (4 * j + m) < 256) : un (part b j (m + 1)) = un (part b j m) * 256 + nth b (4 * j + m) := by
  show un ((part b j m <<< 8) ||| byteW (nth b (4 * j + m))) = _
  obtain ⟨x, hx⟩ : ∃ x : Nat, nth b (4 * j + m) = (x : Int) := ⟨(nth b (4 * j + m)).toNat, by omega⟩
  rw [hx] at h0 h1 ⊢
  have h1' : x < 256 := by omega
  unfold un at h ⊢
  have e1 : (byteW (x : Int)).toNat = x := by
    have := byteW_un (x : Int) h0 h1
    unfold un at this
    omega
  have e2 : (part b j m <<< 8).toNat = (part b j m).toNat * 256 := by
    rw [UInt32.toNat_shiftLeft, Nat.shiftLeft_eq]
    show (part b j m).toNat * 256 % 4294967296 = _
    omega
  rw [UInt32.toNat_or, e1, e2]
  have e3 : (part b j m).toNat * 256 ||| x = (part b j m).toNat * 256 + x := by
    have := Nat.shiftLeft_add_eq_or_of_lt (i := 8) (b := x) (by omega) (part b j m).toNat
    rw [Nat.shiftLeft_eq] at this
    exact this.symm
  rw [e3]
  omega
theorem word_sum (b : List Int) (j : Nat) (h : ∀ m, m < 4 → 0 ≤ nth b (4 * j + m) ∧ nth b (4 * j + m) < 256) :
    un (wordAt b j) = nth b (4 * j) * 16777216 + nth b (4 * j + 1) * 65536 + nth b (4 * j + 2) * 256 + nth b (4 * j + 3) := by
  have a0 := h 0 (by omega)
  have a1 := h 1 (by omega)
  have a2 := h 2 (by omega)
  have a3 := h 3 (by omega)
  have p0 : un (part b j 0) = 0 := rfl
  have p1 := part_next b j 0 (by rw [p0]; omega) a0.1 a0.2
  have p2 := part_next b j 1 (by rw [p1, p0]; simp only [Nat.add_zero] at *; omega) a1.1 a1.2
  have p3 := part_next b j 2 (by rw [p2, p1, p0]; simp only [Nat.add_zero] at *; omega) a2.1 a2.2
  have p4 := part_next b j 3 (by rw [p3, p2, p1, p0]; simp only [Nat.add_zero] at *; omega) a3.1 a3.2
  show un (part b j 4) = _
  rw [p4, p3, p2, p1, p0]
  simp only [Nat.add_zero] at *
  omega
/-- The first words of a block, as numbers; the schedule so far, as numbers. -/
def words16 (b : List Int) (k : Nat) : List Int := (List.range k).map fun j => un (wordAt b j)
theorem words16_len (b : List Int) (k : Nat) : (words16 b k).length = k := by simp [words16]
theorem words16_succ (b : List Int) (k : Nat) : words16 b (k + 1) = words16 b k ++ [un (wordAt b k)] := by simp [words16, List.range_succ]
def schedI (b : List Int) (n : Nat) : List Int := (sched b n).map un
theorem schedI_len (b : List Int) (n : Nat) : (schedI b n).length = n + 16 := by simp [schedI, sched_len]
theorem words16_all (b : List Int) : words16 b 16 = schedI b 0 := by simp [words16, schedI, sched, Function.comp_def]
theorem schedI_succ (b : List Int) (n : Nat) : schedI b (n + 1) = schedI b n ++ [un (next (sched b n))] := by simp [schedI, sched]
theorem schedI_nth (b : List Int) (n j : Nat) (h : j < n + 16) : nth (schedI b n) j = un ((sched b n).getD j 0) := by
  unfold nth schedI
  have hl : j < (sched b n).length := by rw [sched_len]; exact h
  rw [List.getD_eq_getElem?_getD, List.getElem?_map, List.getElem?_eq_getElem hl, List.getD_eq_getElem?_getD, List.getElem?_eq_getElem hl]
  rfl

/-- Behind an append of one number onto a row of the call's own: the new row, and the old one as it was. -/
theorem run_append_kept {P : Program} (w : World) (base : Nat) (t ty e : TypeId) (i : TypeInfo) (z : Value) (bytes : Nat) (ht : P.underlying t = some (.slice e)) (hi : P.info? e = some i) (hz : i.zero = some z)
    (hsize : i.size = 1) (hby : i.bytes = bytes) (hzs : z.cells.size = 1)
    (v : Value) (n : Nat) (xs : List Value) (hown : w.ownsRow base e 1 v n xs)
    (a : Addr) (m c : Nat) (news : List Value) (hl : news.length = m * 1) (hnews : ∀ j u, news[j]? = some u → w.cell? (a.add j) = some u) (h1 : ∀ u ∈ news, u.oneCell' = true)
    (h63 : n + m ≤ maxLen) (hbytes : (n + m) * bytes ≤ 140737488355328) (hbase : base ≤ w.heap.size) :
    ∃ v' w', (Builtin.append_ #[t, t] ty #[v, .slice (some a) m c]).run P w = .ok v' w' ∧ w'.ownsRow base e 1 v' (n + m) (xs ++ news) ∧ w.grownBy w' v.ownBlock ∧
      ∀ g, v.ownBlock = some g → ∀ j u, xs[j]? = some u → w'.cell? ⟨g, j, none⟩ = some u := by
  obtain ⟨v', w', hr, ho, hg, _, _⟩ := run_append_own_at (P := P) w base t ty e i z 1 bytes ht hi hz hsize hby hzs (by omega) v n xs hown a m c news hl hnews h1 h63 hbytes hbase
  refine ⟨v', w', hr, ho, hg, fun g hv j u hu => ?_⟩
  have add0 : ∀ j, (⟨g, 0, none⟩ : Addr).add j = ⟨g, j, none⟩ := fun j => by simp [Go.WideShapes.add_plain]
  rcases id hown.2 with ⟨rfl, rfl⟩ | ⟨g', cap, cur, rfl, hbg, hgg, hnc, hcm, hcs, htake⟩
  · cases hv
  · cases hv
    by_cases hroom : n + m ≤ cap
    · have hfit : n * i.size + news.length ≤ cur.size := by rw [hl, hcs, hsize]; omega
      have hr' := run_append_room (P := P) w t ty e i ht hi g' n cap cur hgg a m c news (by rw [hl, hsize]) hnews h1 hroom hfit
      rw [hr] at hr'
      injection hr' with e1 e2
      subst e1
      have := ho.cells (g := g') rfl j u (by rw [List.getElem?_append_left (List.getElem?_eq_some_iff.1 hu).1]; exact hu)
      rw [add0] at this
      exact this
    · have holds := hown.cells (g := g') rfl
      have hr' := run_append_grow (P := P) w t ty e i z ht hi hz ⟨g', 0, none⟩ n cap xs (by rw [hown.1, hsize]) holds a m c news (by rw [hl, hsize]) hnews (by omega) (by unfold maxLen at h63; omega) (growslice_fits (by omega) (by rw [hby]; exact hbytes))
      rw [hr] at hr'
      injection hr' with e1 e2
      have := holds j u hu
      rw [add0] at this
      rw [e2]
      exact cell_alloc (w := w.drew) this
theorem step_append_kept {P : Program} {w : World} {ops : Array Oper} {o : Oper} {a : Act} {K : Act → World → Prop} {Q : Exit → Act → World → Prop} {E : Prop} (hgd : o.guard = none) (s x : Operand) (t : TypeId)
    (ho : o.op = .call { callee := .builtin .append, args := #[s, x], argTypes := #[t, t] })
    (base : Nat) (e : TypeId) (i : TypeInfo) (z : Value) (bytes : Nat) (k : IntKind) (ht : P.underlying t = some (.slice e)) (hi : P.info? e = some i) (hz : i.zero = some z)
    (hsize : i.size = 1) (hby : i.bytes = bytes) (hzs : z.cells.size = 1)
    (v : Value) (xs : List Int) (hs : a.eval s = v) (hown : w.ownsRow base e 1 v xs.length (xs.map (Value.int k)))
    {b : Nat} {y : Int} (hx : a.eval x = .slice (some ⟨b, 0, none⟩) 1 1) (hb : Box w b [.int k y])
    (h63 : xs.length + 1 ≤ maxLen) (hbytes : (xs.length + 1) * bytes ≤ 140737488355328) (hbase : base ≤ w.heap.size)
    (h : ∀ v' w', w'.ownsRow base e 1 v' (xs ++ [y]).length ((xs ++ [y]).map (Value.int k)) → Below base w w' → (∀ g, v.ownBlock = some g → ∀ j, j < xs.length → w'.cell? ⟨g, j, none⟩ = some (.int k (nth xs j))) → K (a.put o.dst v') w') :
    if Region.wanted o (yielded ops a.tmps) = true then Oper.wp P o a w K Q else E := by
  have hw : Region.wanted o (yielded ops a.tmps) = true := by simp [Region.wanted, hgd]
  rw [if_pos hw]
  obtain ⟨v', w', hr, h2, h3, h4⟩ := run_append_kept (P := P) w base t o.type e i z bytes ht hi hz hsize hby hzs v xs.length (xs.map (Value.int k)) hown ⟨b, 0, none⟩ 1 1 [.int k y] rfl
    (fun j u hu => by
      have := hb.c j u hu
      simpa [Go.WideShapes.add_plain] using this) (fun u hu => by simp at hu; subst hu; rfl) h63 hbytes hbase
  have hk := h v' w' (by simpa using h2) ((Below.refl base w).grown h3 hbase (own_block hown)) (fun g hg j hj => h4 g hg j _ (nth_get j hj))
  unfold Oper.wp execOp
  simp only [ho, resolve, invoke, builtin, Sem.run_bind, Sem.run_pure, Result.andThen_ok, List.map_toArray, List.map_cons, List.map_nil, hs, hx, hr]
  exact hk

set_option maxRecDepth 100000 in
theorem info_u32 : (Tryd.prog.info? 27).map (fun i => (i.zero, i.size, i.bytes)) = some (some (.int .u32 0), 1, 4) := by kernel_rfl
set_option maxRecDepth 100000 in
theorem constants_is (w : World) : Calls Tryd.prog 88 #[] w fun e w' => e = .returned (.slice (some ⟨w.heap.size, 0, none⟩) 64 64) ∧ Box w' w.heap.size (shaK.map wv) ∧ Below w.heap.size w w' := by
  go_enter Tryd.func88, Tryd.ntmps88
  go_wp2
  go_returns
  exact ⟨rfl, Box.newc (by kernel_rfl) rfl, (Below.refl _ _).alloc (Nat.le_refl _) _⟩
set_option maxRecDepth 100000 in
theorem rfirst_is (w : World) : Calls Tryd.prog 69 #[] w fun e w' => e = .returned (.agg (hv first).toArray) ∧ Below w.heap.size w w' := by
  go_enter Tryd.func69, Tryd.ntmps69
  go_wp2_with fail
  refine bodyPost_ret (v := .agg (hv first).toArray) (by simp [results, Tryd.results69, go_sem, hv, first, un]) rfl ⟨rfl, ?_⟩
  go_grown

end Go.Proofs.YtofjpeplgagihaaDoor

namespace Go.Proofs.YtofjpeplgagihaaDoor
open Go.RowKit

set_option maxRecDepth 100000 in
theorem info32 : ∃ i, Tryd.prog.info? 27 = some i ∧ i.zero = some (.int .u32 0) ∧ i.size = 1 ∧ i.bytes = 4 := ⟨_, rfl, by kernel_rfl, by kernel_rfl, by kernel_rfl⟩
set_option maxRecDepth 100000 in
theorem own_below {w w' : World} {B e n : Nat} {v : Value} {l : List Value} (h : w.ownsRow B e 1 v n l) (hb : Below w.heap.size w w') : w'.ownsRow B e 1 v n l := by
  obtain ⟨h1, h2 | ⟨g, cap, cur, h3, hg, h4, h5⟩⟩ := h
  · exact ⟨h1, Or.inl h2⟩
  · exact ⟨h1, Or.inr ⟨g, cap, cur, h3, hg, by rw [hb.block g (Array.getElem?_eq_some_iff.1 h4).1]; exact h4, h5⟩⟩
set_option maxRecDepth 100000 in
/-- What a row of the call's own that holds something looks like. -/
theorem own_form {w : World} {k : IntKind} {B e : Nat} {v : Value} {xs : List Int} (m : Nat) (hm : xs.length = m) (h : w.ownsRow B e 1 v xs.length (xs.map (Value.int k))) (hp : 0 < m) :
    ∃ g cap, m ≤ cap ∧ v = .slice (some ⟨g, 0, none⟩) m cap ∧ ∀ j, j < m → w.cell? ⟨g, j, none⟩ = some (.int k (nth xs j)) := by
  subst hm
  rcases id h.2 with ⟨_, h0⟩ | ⟨g, cap, cur, rfl, _, _, hnc, _⟩
  · omega
  · refine ⟨g, cap, hnc, rfl, fun j hj => ?_⟩
    have := h.cells (g := g) rfl j _ (nth_get j hj)
    simpa [Go.WideShapes.add_plain] using this
set_option maxRecDepth 100000 in
theorem turn_b (x : UInt32) (m : Int) (n : Nat) (hm : Hid (m = (n : Int))) (h0 : 0 < n) (h : n < 32) (w : World) :
    Calls Tryd.prog 87 #[.int .u32 (un x), .int .i64 m] w fun e w' => e = .returned (.int .u32 (un (rotr x n))) ∧ Below w.heap.size w w' :=
  (turn_any x m n hm h0 h w).mono fun _ _ ⟨he, q, hw⟩ => ⟨he, hw ▸ below_drewN (Below.refl _ _) q⟩
set_option maxRecDepth 100000 in
set_option maxHeartbeats 16000000 in
theorem rtaken_any (h : W8) (at0 : Option Addr) (cap : Nat) (xs : List Int) (w : World) (hi : Ints w .u8 at0 cap xs) (hl : xs.length = 64) (hx : ∀ k, k < 64 → 0 ≤ nth xs k ∧ nth xs k < 256) :
    Calls Tryd.prog 81 #[.agg (hv h).toArray, .slice at0 xs.length cap] w fun e w' => e = .returned (.agg (hv (taken h xs)).toArray) ∧ Below w.heap.size w w' := by
  have hr := hi.room
  have hm := hi.most
  obtain ⟨b, off, rfl, hc⟩ := hi.cells (by omega)
  rw [hl] at hc hr
  rw [hl]
  have HC := Lib.hid hc
  have HX := Lib.hid hx
  obtain ⟨ti, hin, hz0, hz1, hz2⟩ := info32
  obtain ⟨V, hV⟩ : ∃ V, V = hv h := ⟨_, rfl⟩
  rw [← hV]
  have HV := Lib.hid hV
  clear hV hi hc hx
  go_enter Tryd.func81, Tryd.ntmps81
  go_upto_region 1 with fail
  go_cut [2, 4, 5] (fun p q r wx => p = .pointer (some ⟨w.heap.size, 0, none⟩) ∧ q = .pointer (some ⟨w.heap.size + 1, 0, none⟩) ∧ r = .slice none 0 0 ∧ Box wx w.heap.size (hv h) ∧ Box wx (w.heap.size + 1) (List.replicate 8 (.int .u32 0)) ∧ Below w.heap.size w wx)
  case first =>
    go_wp2_with fail
    go_meet
    exact ⟨rfl, rfl, rfl, Box.alloc (Box.newc (by rw [HV.out]) rfl) _, Box.newc rfl (by simp), by go_grown⟩
  case rest =>
    obtain ⟨rfl, rfl, rfl, hxh, hxr, hB1⟩ := hcut
    obtain ⟨w1, rfl⟩ : ∃ u : World, u = wc := ⟨_, rfl⟩
    have HC1 := Lib.hid (show ∀ i, i < 64 → w1.cell? ⟨b, off + i, none⟩ = some (.int .u8 (nth xs i)) from fun i hi => cell_below' hB1 (HC.out i hi))
    have H0 := Lib.hid hxh
    have HR := Lib.hid hxr
    have HB1 := Lib.hid hB1
    have hz1r := hxr.lt
    clear hxh hxr hB1 HC
    go_wp2_with fail
    go_loopw [5, 6] (fun v i wr => ∃ t : Nat, t ≤ 16 ∧ i = .int .i64 t ∧ wr.ownsRow w1.heap.size 27 1 v (words16 xs t).length ((words16 xs t).map (Value.int .u32)) ∧ Below w1.heap.size w1 wr) (fun _ i _ => 16 - (intOf i).toNat)
    case atStart => exact ⟨0, by omega, rfl, owns_none, Below.refl _ _⟩
    case round =>
      obtain ⟨t, ht, rfl, hown, hB⟩ := hrel
      by_cases hlt : t < 16
      · have x0 := HX.out (4 * t) (by omega)
        have x1 := HX.out (4 * t + 1) (by omega)
        have x2 := HX.out (4 * t + 2) (by omega)
        have x3 := HX.out (4 * t + 3) (by omega)
        have WS := Lib.hid (word_sum xs t (fun m hm => HX.out (4 * t + m) (by omega)))
        have WL := words16_len xs t
        have HO := Lib.hid hown
        have hsz := hB.size
        have hSB := Lib.hid hB
        clear hown hB
        go_upto_region 5 with fail
        refine wp_region_held_drew (S := fun w' => Below w1.heap.size w1 w') (by kernel_rfl) (hSB.out.drew) (fun hS0 => ?_)
        refine F_drew (F := fun W => (fun w' => Below w1.heap.size w1 w') W → wpAnyH _ _ _ _ _ _ _ _ W) ?_ hS0
        intro W0 hb0 hS0
        have own0 := own_below HO.out hb0
        have sz0 := hb0.size
        refine takeH 0 28 (v := ?va0_1) rfl (by rfl) (by kernel_rfl) (by kernel_rfl) (by kernel_rfl) (fun _ _ _ h => h) (Or.inl ⟨by rfl, ?_⟩) (hS0) ?_
        rotate_left
        · intro wq hSq
          go_simp
          exact rfl
        try simp only [Act.put, List.setIfInBounds_toArray, List.set_cons_zero, List.set_cons_succ]
        refine takeH 1 29 (v := ?va1_2) rfl (by rfl) (by kernel_rfl) (by kernel_rfl) (by kernel_rfl) (fun _ _ _ h => h) (Or.inl ⟨by rfl, ?_⟩) (hS0) ?_
        rotate_left
        · intro wq hSq
          go_simp
          exact rfl
        try simp only [Act.put, List.setIfInBounds_toArray, List.set_cons_zero, List.set_cons_succ]
        refine takeH 2 30 (v := ?va2_3) rfl (by rfl) (by kernel_rfl) (by kernel_rfl) (by kernel_rfl) (fun _ _ _ h => h) (Or.inl ⟨by rfl, ?_⟩) (hS0) ?_
        rotate_left
        · intro wq hSq
          go_simp
          exact rfl
        try simp only [Act.put, List.setIfInBounds_toArray, List.set_cons_zero, List.set_cons_succ]
        refine takeH 3 31 (v := ?va3_4) rfl (by rfl) (by kernel_rfl) (by kernel_rfl) (by kernel_rfl) (fun _ _ _ h => h) (Or.inl ⟨by rfl, ?_⟩) (hS0) ?_
        rotate_left
        · intro wq hSq
          go_simp
          exact rfl
        try simp only [Act.put, List.setIfInBounds_toArray, List.set_cons_zero, List.set_cons_succ]
        refine takeH 8 36 (v := ?va8_5) rfl (by rfl) (by kernel_rfl) (by kernel_rfl) (by kernel_rfl) (fun _ _ _ h => h) (Or.inl ⟨by rfl, ?_⟩) (hS0) ?_
        rotate_left
        · intro wq hSq
          go_simp
          exact rfl
        try simp only [Act.put, List.setIfInBounds_toArray, List.set_cons_zero, List.set_cons_succ]
        refine takeH 9 37 (v := ?va9_6) rfl (by rfl) (by kernel_rfl) (by kernel_rfl) (by kernel_rfl) (fun _ _ _ h => h) (Or.inl ⟨by rfl, ?_⟩) (hS0) ?_
        rotate_left
        · intro wq hSq
          go_simp
          exact rfl
        try simp only [Act.put, List.setIfInBounds_toArray, List.set_cons_zero, List.set_cons_succ]
        refine takeH 10 38 (v := ?va10_7) rfl (by rfl) (by kernel_rfl) (by kernel_rfl) (by kernel_rfl) (fun _ _ _ h => h) (Or.inl ⟨by rfl, ?_⟩) (hS0) ?_
        rotate_left
        · intro wq hSq
          go_simp
          exact rfl
        try simp only [Act.put, List.setIfInBounds_toArray, List.set_cons_zero, List.set_cons_succ]
        refine takeH 11 39 (v := ?va11_8) rfl (by rfl) (by kernel_rfl) (by kernel_rfl) (by kernel_rfl) (fun _ _ _ h => h) (Or.inl ⟨by rfl, ?_⟩) (hS0) ?_
        rotate_left
        · intro wq hSq
          go_simp
          exact rfl
        try simp only [Act.put, List.setIfInBounds_toArray, List.set_cons_zero, List.set_cons_succ]
        refine takeH 17 45 (v := ?va17_9) rfl (by rfl) (by kernel_rfl) (by kernel_rfl) (by kernel_rfl) (fun _ _ _ h => h) (Or.inl ⟨by rfl, ?_⟩) (hS0) ?_
        rotate_left
        · intro wq hSq
          go_simp
          exact rfl
        try simp only [Act.put, List.setIfInBounds_toArray, List.set_cons_zero, List.set_cons_succ]
        refine takeH 18 46 (v := ?va18_10) rfl (by rfl) (by kernel_rfl) (by kernel_rfl) (by kernel_rfl) (fun _ _ _ h => h) (Or.inl ⟨by rfl, ?_⟩) (hS0) ?_
        rotate_left
        · intro wq hSq
          go_simp
          exact rfl
        try simp only [Act.put, List.setIfInBounds_toArray, List.set_cons_zero, List.set_cons_succ]
        refine takeH 19 47 (v := ?va19_11) rfl (by rfl) (by kernel_rfl) (by kernel_rfl) (by kernel_rfl) (fun _ _ _ h => h) (Or.inl ⟨by rfl, ?_⟩) (hS0) ?_
        rotate_left
        · intro wq hSq
          go_simp
          exact rfl
        try simp only [Act.put, List.setIfInBounds_toArray, List.set_cons_zero, List.set_cons_succ]
        refine takeH 20 48 (v := ?va20_12) rfl (by rfl) (by kernel_rfl) (by kernel_rfl) (by kernel_rfl) (fun _ _ _ h => h) (Or.inl ⟨by rfl, ?_⟩) (hS0) ?_
        rotate_left
        · intro wq hSq
          go_simp
          exact rfl
        try simp only [Act.put, List.setIfInBounds_toArray, List.set_cons_zero, List.set_cons_succ]
        refine takeH 26 54 (v := ?va26_13) rfl (by rfl) (by kernel_rfl) (by kernel_rfl) (by kernel_rfl) (fun _ _ _ h => h) (Or.inl ⟨by rfl, ?_⟩) (hS0) ?_
        rotate_left
        · intro wq hSq
          go_simp
          exact rfl
        try simp only [Act.put, List.setIfInBounds_toArray, List.set_cons_zero, List.set_cons_succ]
        refine takeH 27 55 (v := ?va27_14) rfl (by rfl) (by kernel_rfl) (by kernel_rfl) (by kernel_rfl) (fun _ _ _ h => h) (Or.inl ⟨by rfl, ?_⟩) (hS0) ?_
        rotate_left
        · intro wq hSq
          go_simp
          exact rfl
        try simp only [Act.put, List.setIfInBounds_toArray, List.set_cons_zero, List.set_cons_succ]
        refine takeH 28 56 (v := ?va28_15) rfl (by rfl) (by kernel_rfl) (by kernel_rfl) (by kernel_rfl) (fun _ _ _ h => h) (Or.inl ⟨by rfl, ?_⟩) (hS0) ?_
        rotate_left
        · intro wq hSq
          go_simp
          exact rfl
        try simp only [Act.put, List.setIfInBounds_toArray, List.set_cons_zero, List.set_cons_succ]
        refine takeH 29 57 (v := ?va29_16) rfl (by rfl) (by kernel_rfl) (by kernel_rfl) (by kernel_rfl) (fun _ _ _ h => h) (Or.inl ⟨by rfl, ?_⟩) (hS0) ?_
        rotate_left
        · intro wq hSq
          go_simp
          exact rfl
        try simp only [Act.put, List.setIfInBounds_toArray, List.set_cons_zero, List.set_cons_succ]
        refine takeH 4 32 (v := .pointer (some ⟨b, off + (4 * t), none⟩)) rfl (by rfl) (by kernel_rfl) (by kernel_rfl) (by kernel_rfl) (fun _ _ _ h => h) (Or.inl ⟨by rfl, ?_⟩) (hS0) ?_
        · intro wq hSq
          have m0 : IntKind.i64.wrap (4 * (t : Int)) = 4 * (t : Int) := IntWalk.i64_in _ (by omega)
          have m1 : IntKind.i64.wrap (4 * (t : Int)) = 4 * (t : Int) := IntWalk.i64_in _ (by omega)
          have n0 : (4 * (t : Int)).toNat = 4 * t := by omega
          have n1 : (0 : Int) ≤ 4 * (t : Int) := by omega
          have n2 : 4 * (t : Int) < 64 := by omega
          go_simp
        try simp only [Act.put, List.setIfInBounds_toArray, List.set_cons_zero, List.set_cons_succ]
        refine takeH 5 33 (v := .int .u8 (nth xs (4 * t))) rfl (by rfl) (by kernel_rfl) (by kernel_rfl) (by kernel_rfl) (fun _ _ _ h => h) (Or.inl ⟨by rfl, ?_⟩) (hS0) ?_
        · intro wq hSq
          have cq := cell_below' hSq (HC1.out (4 * t) (by omega))
          go_simp
        try simp only [Act.put, List.setIfInBounds_toArray, List.set_cons_zero, List.set_cons_succ]
        refine takeH 6 34 (v := ?va6_17) rfl (by rfl) (by kernel_rfl) (by kernel_rfl) (by kernel_rfl) (fun _ _ _ h => h) (Or.inl ⟨by rfl, ?_⟩) (hS0) ?_
        rotate_left
        · intro wq hSq
          go_simp
          exact rfl
        try simp only [Act.put, List.setIfInBounds_toArray, List.set_cons_zero, List.set_cons_succ]
        refine takeH 7 35 (v := ?va7_18) rfl (by rfl) (by kernel_rfl) (by kernel_rfl) (by kernel_rfl) (fun _ _ _ h => h) (Or.inl ⟨by rfl, ?_⟩) (hS0) ?_
        rotate_left
        · intro wq hSq
          go_simp
          exact rfl
        try simp only [Act.put, List.setIfInBounds_toArray, List.set_cons_zero, List.set_cons_succ]
        refine takeH 12 40 (v := .pointer (some ⟨b, off + (4 * t + 1), none⟩)) rfl (by rfl) (by kernel_rfl) (by kernel_rfl) (by kernel_rfl) (fun _ _ _ h => h) (Or.inl ⟨by rfl, ?_⟩) (hS0) ?_
        · intro wq hSq
          have m0 : IntKind.i64.wrap (4 * (t : Int)) = 4 * (t : Int) := IntWalk.i64_in _ (by omega)
          have m1 : IntKind.i64.wrap (4 * (t : Int) + 1) = 4 * (t : Int) + 1 := IntWalk.i64_in _ (by omega)
          have n0 : (4 * (t : Int) + 1).toNat = 4 * t + 1 := by omega
          have n1 : (0 : Int) ≤ 4 * (t : Int) + 1 := by omega
          have n2 : 4 * (t : Int) + 1 < 64 := by omega
          go_simp
        try simp only [Act.put, List.setIfInBounds_toArray, List.set_cons_zero, List.set_cons_succ]
        refine takeH 13 41 (v := .int .u8 (nth xs (4 * t + 1))) rfl (by rfl) (by kernel_rfl) (by kernel_rfl) (by kernel_rfl) (fun _ _ _ h => h) (Or.inl ⟨by rfl, ?_⟩) (hS0) ?_
        · intro wq hSq
          have cq := cell_below' hSq (HC1.out (4 * t + 1) (by omega))
          go_simp
        try simp only [Act.put, List.setIfInBounds_toArray, List.set_cons_zero, List.set_cons_succ]
        refine takeH 14 42 (v := ?va14_19) rfl (by rfl) (by kernel_rfl) (by kernel_rfl) (by kernel_rfl) (fun _ _ _ h => h) (Or.inl ⟨by rfl, ?_⟩) (hS0) ?_
        rotate_left
        · intro wq hSq
          go_simp
          exact rfl
        try simp only [Act.put, List.setIfInBounds_toArray, List.set_cons_zero, List.set_cons_succ]
        refine takeH 15 43 (v := ?va15_20) rfl (by rfl) (by kernel_rfl) (by kernel_rfl) (by kernel_rfl) (fun _ _ _ h => h) (Or.inl ⟨by rfl, ?_⟩) (hS0) ?_
        rotate_left
        · intro wq hSq
          go_simp
          exact rfl
        try simp only [Act.put, List.setIfInBounds_toArray, List.set_cons_zero, List.set_cons_succ]
        refine takeH 16 44 (v := ?va16_21) rfl (by rfl) (by kernel_rfl) (by kernel_rfl) (by kernel_rfl) (fun _ _ _ h => h) (Or.inl ⟨by rfl, ?_⟩) (hS0) ?_
        rotate_left
        · intro wq hSq
          go_simp
          exact rfl
        try simp only [Act.put, List.setIfInBounds_toArray, List.set_cons_zero, List.set_cons_succ]
        refine takeH 21 49 (v := .pointer (some ⟨b, off + (4 * t + 2), none⟩)) rfl (by rfl) (by kernel_rfl) (by kernel_rfl) (by kernel_rfl) (fun _ _ _ h => h) (Or.inl ⟨by rfl, ?_⟩) (hS0) ?_
        · intro wq hSq
          have m0 : IntKind.i64.wrap (4 * (t : Int)) = 4 * (t : Int) := IntWalk.i64_in _ (by omega)
          have m1 : IntKind.i64.wrap (4 * (t : Int) + 2) = 4 * (t : Int) + 2 := IntWalk.i64_in _ (by omega)
          have n0 : (4 * (t : Int) + 2).toNat = 4 * t + 2 := by omega
          have n1 : (0 : Int) ≤ 4 * (t : Int) + 2 := by omega
          have n2 : 4 * (t : Int) + 2 < 64 := by omega
          go_simp
        try simp only [Act.put, List.setIfInBounds_toArray, List.set_cons_zero, List.set_cons_succ]
        refine takeH 22 50 (v := .int .u8 (nth xs (4 * t + 2))) rfl (by rfl) (by kernel_rfl) (by kernel_rfl) (by kernel_rfl) (fun _ _ _ h => h) (Or.inl ⟨by rfl, ?_⟩) (hS0) ?_
        · intro wq hSq
          have cq := cell_below' hSq (HC1.out (4 * t + 2) (by omega))
          go_simp
        try simp only [Act.put, List.setIfInBounds_toArray, List.set_cons_zero, List.set_cons_succ]
        refine takeH 23 51 (v := ?va23_22) rfl (by rfl) (by kernel_rfl) (by kernel_rfl) (by kernel_rfl) (fun _ _ _ h => h) (Or.inl ⟨by rfl, ?_⟩) (hS0) ?_
        rotate_left
        · intro wq hSq
          go_simp
          exact rfl
        try simp only [Act.put, List.setIfInBounds_toArray, List.set_cons_zero, List.set_cons_succ]
        refine takeH 24 52 (v := ?va24_23) rfl (by rfl) (by kernel_rfl) (by kernel_rfl) (by kernel_rfl) (fun _ _ _ h => h) (Or.inl ⟨by rfl, ?_⟩) (hS0) ?_
        rotate_left
        · intro wq hSq
          go_simp
          exact rfl
        try simp only [Act.put, List.setIfInBounds_toArray, List.set_cons_zero, List.set_cons_succ]
        refine takeH 25 53 (v := ?va25_24) rfl (by rfl) (by kernel_rfl) (by kernel_rfl) (by kernel_rfl) (fun _ _ _ h => h) (Or.inl ⟨by rfl, ?_⟩) (hS0) ?_
        rotate_left
        · intro wq hSq
          go_simp
          exact rfl
        try simp only [Act.put, List.setIfInBounds_toArray, List.set_cons_zero, List.set_cons_succ]
        refine takeH 30 58 (v := .pointer (some ⟨b, off + (4 * t + 3), none⟩)) rfl (by rfl) (by kernel_rfl) (by kernel_rfl) (by kernel_rfl) (fun _ _ _ h => h) (Or.inl ⟨by rfl, ?_⟩) (hS0) ?_
        · intro wq hSq
          have m0 : IntKind.i64.wrap (4 * (t : Int)) = 4 * (t : Int) := IntWalk.i64_in _ (by omega)
          have m1 : IntKind.i64.wrap (4 * (t : Int) + 3) = 4 * (t : Int) + 3 := IntWalk.i64_in _ (by omega)
          have n0 : (4 * (t : Int) + 3).toNat = 4 * t + 3 := by omega
          have n1 : (0 : Int) ≤ 4 * (t : Int) + 3 := by omega
          have n2 : 4 * (t : Int) + 3 < 64 := by omega
          go_simp
        try simp only [Act.put, List.setIfInBounds_toArray, List.set_cons_zero, List.set_cons_succ]
        refine takeH 31 59 (v := .int .u8 (nth xs (4 * t + 3))) rfl (by rfl) (by kernel_rfl) (by kernel_rfl) (by kernel_rfl) (fun _ _ _ h => h) (Or.inl ⟨by rfl, ?_⟩) (hS0) ?_
        · intro wq hSq
          have cq := cell_below' hSq (HC1.out (4 * t + 3) (by omega))
          go_simp
        try simp only [Act.put, List.setIfInBounds_toArray, List.set_cons_zero, List.set_cons_succ]
        refine takeH 32 60 (v := ?va32_25) rfl (by rfl) (by kernel_rfl) (by kernel_rfl) (by kernel_rfl) (fun _ _ _ h => h) (Or.inl ⟨by rfl, ?_⟩) (hS0) ?_
        rotate_left
        · intro wq hSq
          go_simp
          exact rfl
        try simp only [Act.put, List.setIfInBounds_toArray, List.set_cons_zero, List.set_cons_succ]
        refine takeH 33 61 (v := .int .u32 (un (wordAt xs t))) rfl (by rfl) (by kernel_rfl) (by kernel_rfl) (by kernel_rfl) (fun _ _ _ h => h) (Or.inl ⟨by rfl, ?_⟩) (hS0) ?_
        · intro wq hSq
          go_simp
          rw [WS.out]
          simp only [IntKind.wrap_u32]
          omega
        try simp only [Act.put, List.setIfInBounds_toArray, List.set_cons_zero, List.set_cons_succ]
        refine wpAnyH_ready (rs := [34]) (by kernel_rfl) (by simp) (AllReadyH.cons rfl (fun K hK => ?_) AllReadyH.nil)
        go_simp
        refine hK.out _ _ (Below.alloc hS0 (Below.size hS0) _) (fun _ => ?_); clear hK K
        refine F_alloc (F := fun W => wpAnyH _ _ _ _ _ _ _ _ W) [.int .u32 (un (wordAt xs t))] rfl ?_
        intro W26 hx26 hb26
        have S26 := Below.trans hS0 (Below.mono hb26 (Below.size hS0))
        have own26 := own_below own0 hb26
        have sz26 := hb26.size
        refine wpAnyH_ready (rs := [35]) (by kernel_rfl) (by simp) (AllReadyH.cons rfl (fun K hK => ?_) AllReadyH.nil)
        refine step_append_kept rfl _ _ 142 (by rfl) w1.heap.size 27 ti (.int .u32 0) 4 .u32 Tryd.underlying142 hin hz0 hz1 hz2 rfl _ (words16 xs t) (by rfl) own26 (y := un (wordAt xs t)) (by rfl) hx26 (by have := WL; unfold maxLen; omega) (by have := WL; omega) (by omega) ?_
        intro v27 W27 own27 hb27 hk27
        have S27 := Below.trans S26 hb27
        refine hK.out _ _ (S27) (fun _ => ?_); clear hK K
        refine takeH 36 5 (v := ?va36_28) rfl (by rfl) (by kernel_rfl) (by kernel_rfl) (by kernel_rfl) (fun _ _ _ h => h) (Or.inl ⟨by rfl, ?_⟩) (S27) ?_
        rotate_left
        · intro wq hSq
          go_simp
          exact rfl
        try simp only [Act.put, List.setIfInBounds_toArray]
        refine wpAnyH_done (by kernel_rfl) ?_ _
        have OWN := Lib.hid own27
        have BB := Lib.hid S27
        go_wp2_with fail
        go_roundw
        case rel => exact ⟨t + 1, by omega, by go_num, by rw [words16_succ]; exact OWN.out, BB.out⟩
        case measure => simp [intOf]; omega
      · obtain rfl : t = 16 := by omega
        rw [words16_all] at hown
        clear hlt ht HC1
        go_wp2_with fail
        simp only [Int.cast_ofNat_Int]
        go_loopw [5, 7] (fun v i wr => ∃ n : Nat, n ≤ 48 ∧ i = .int .i64 ((n : Int) + 16) ∧ wr.ownsRow w1.heap.size 27 1 v (schedI xs n).length ((schedI xs n).map (Value.int .u32)) ∧ Below w1.heap.size w1 wr) (fun _ i _ => 64 - (intOf i).toNat)
        case atStart => exact ⟨0, by omega, rfl, hown, hB⟩
        case round =>
          clear hown hB
          obtain ⟨n, hn, rfl, hown, hB⟩ := hrel
          by_cases hlt : n < 48
          · obtain ⟨g, cp, hcp, rfl, hcell⟩ := own_form (n + 16) (schedI_len xs n) hown (by omega)
            have c1 := hcell (n + 1) (by omega)
            have c2 := hcell (n + 14) (by omega)
            rw [schedI_nth _ _ _ (by omega)] at c1 c2
            have N := sched_len xs n
            have V : (next (sched xs n)) = ((sched xs n).getD n 0 + (sched xs n).getD (n + 9) 0 + sg0 ((sched xs n).getD (n + 1) 0) + sg1 ((sched xs n).getD (n + 14) 0)) := by
              unfold next
              rw [N, show n + 16 - 16 = n by omega, show n + 16 - 7 = n + 9 by omega, show n + 16 - 15 = n + 1 by omega, show n + 16 - 2 = n + 14 by omega]
            have S := Lib.hid (schedI_succ xs n)
            have HG := Lib.hid hcell
            have HO := Lib.hid hown
            have hsz := hB.size
            have HB := Lib.hid hB
            have SL := Lib.hid (schedI_len xs n)
            obtain ⟨nx, hnx⟩ : ∃ nx, nx = next (sched xs n) := ⟨_, rfl⟩
            have s0 := Lib.hid (schedI_nth xs n n (by omega))
            have s9 := Lib.hid (schedI_nth xs n (n + 9) (by omega))
            rw [← hnx] at S
            rw [← hnx] at V
            clear N hnx hcell hown hB
            generalize (sched xs n).getD n 0 = v0 at *
            generalize (sched xs n).getD (n + 1) 0 = v1 at *
            generalize (sched xs n).getD (n + 9) 0 = v9 at *
            generalize (sched xs n).getD (n + 14) 0 = v14 at *
            have HV2 := Lib.hid V
            clear V
            have X := un_xor
            have A := un_addm
            have D1 : un v1 / (8 : Int) = un (v1 >>> 3) := un_shr v1 3 (by decide)
            have D2 : un v14 / (1024 : Int) = un (v14 >>> 10) := un_shr v14 10 (by decide)
            have e1 : IntKind.i64.wrap ((n : Int) + 16 - 15) = (n : Int) + 1 := by rw [IntWalk.i64_in _ (by omega)]; omega
            have e2 : IntKind.i64.wrap ((n : Int) + 16 - 2) = (n : Int) + 14 := by rw [IntWalk.i64_in _ (by omega)]; omega
            have e3 : ((n : Int) + 1).toNat = n + 1 := by omega
            have e4 : ((n : Int) + 14).toNat = n + 14 := by omega
            have b1 : 0 ≤ (n : Int) + 1 := by omega
            have b2 : (n : Int) + 1 < (n : Int) + 16 := by omega
            have b3 : 0 ≤ (n : Int) + 14 := by omega
            have b4 : (n : Int) + 14 < (n : Int) + 16 := by omega
            go_wp2_with fail
            go_quiet (fail)
            clear e1 e2 e3 e4 b1 b2 b3 b4 c1 c2
            go_wp2_with fail
            refine (turn_b v1 _ 7 (Lib.hid rfl) (by decide) (by decide) _).mono ?_; rintro e wA ⟨rfl, hA⟩
            go_wp2_with fail
            refine (turn_b v1 _ 18 (Lib.hid rfl) (by decide) (by decide) _).mono ?_; rintro e wB ⟨rfl, hB⟩
            go_wp2_with fail
            refine (turn_b v14 _ 17 (Lib.hid rfl) (by decide) (by decide) _).mono ?_; rintro e wC ⟨rfl, hC⟩
            go_wp2_with fail
            refine (turn_b v14 _ 19 (Lib.hid rfl) (by decide) (by decide) _).mono ?_; rintro e wD ⟨rfl, hD⟩
            go_upto_region 12 with fail
            have hAll : Below wr.heap.size wr wD := below_thru (below_thru (below_thru (below_thru (below_drewN (Below.refl _ _) _) hA) hB) hC) hD
            have HO2 := Lib.hid (own_below HO.out hAll)
            have HS2 : Below w1.heap.size w1 wD ∧ ∀ j, j < n + 16 → wD.cell? ⟨g, j, none⟩ = some (.int .u32 (nth (schedI xs n) j)) := ⟨below_thru HB.out hAll, fun j hj => cell_below' hAll (HG.out j hj)⟩
            have HS2 := Lib.hid HS2
            have hsD := HS2.out.1.size
            clear hA hB hC hD hAll A X D1 D2 HO HB HG
            refine wp_region_held_drew (S := fun w' => Below w1.heap.size w1 w' ∧ ∀ j, j < n + 16 → w'.cell? ⟨g, j, none⟩ = some (.int .u32 (nth (schedI xs n) j))) (by kernel_rfl) (And.intro HS2.out.1.drew HS2.out.2) (fun hS0 => ?_)
            refine F_drew (F := fun W => (fun w' => Below w1.heap.size w1 w' ∧ ∀ j, j < n + 16 → w'.cell? ⟨g, j, none⟩ = some (.int .u32 (nth (schedI xs n) j))) W → wpAnyH _ _ _ _ _ _ _ _ W) ?_ hS0
            intro W0 hb0 hS0
            have own0 := own_below HO2.out hb0
            have sz0 := hb0.size
            refine takeH 0 94 (v := ?vb0_1) rfl (by rfl) (by kernel_rfl) (by kernel_rfl) (by kernel_rfl) (fun _ _ _ h => h) (Or.inl ⟨by rfl, ?_⟩) (hS0) ?_
            rotate_left
            · intro wq hSq
              go_simp
              exact rfl
            try simp only [Act.put, List.setIfInBounds_toArray, List.set_cons_zero, List.set_cons_succ]
            refine takeH 1 95 (v := ?vb1_2) rfl (by rfl) (by kernel_rfl) (by kernel_rfl) (by kernel_rfl) (fun _ _ _ h => h) (Or.inl ⟨by rfl, ?_⟩) (hS0) ?_
            rotate_left
            · intro wq hSq
              go_simp
              exact rfl
            try simp only [Act.put, List.setIfInBounds_toArray, List.set_cons_zero, List.set_cons_succ]
            refine takeH 2 96 (v := ?vb2_3) rfl (by rfl) (by kernel_rfl) (by kernel_rfl) (by kernel_rfl) (fun _ _ _ h => h) (Or.inl ⟨by rfl, ?_⟩) (hS0) ?_
            rotate_left
            · intro wq hSq
              go_simp
              exact rfl
            try simp only [Act.put, List.setIfInBounds_toArray, List.set_cons_zero, List.set_cons_succ]
            refine takeH 3 97 (v := ?vb3_4) rfl (by rfl) (by kernel_rfl) (by kernel_rfl) (by kernel_rfl) (fun _ _ _ h => h) (Or.inl ⟨by rfl, ?_⟩) (hS0) ?_
            rotate_left
            · intro wq hSq
              go_simp
              exact rfl
            try simp only [Act.put, List.setIfInBounds_toArray, List.set_cons_zero, List.set_cons_succ]
            refine takeH 6 100 (v := ?vb6_5) rfl (by rfl) (by kernel_rfl) (by kernel_rfl) (by kernel_rfl) (fun _ _ _ h => h) (Or.inl ⟨by rfl, ?_⟩) (hS0) ?_
            rotate_left
            · intro wq hSq
              go_simp
              exact rfl
            try simp only [Act.put, List.setIfInBounds_toArray, List.set_cons_zero, List.set_cons_succ]
            refine takeH 7 101 (v := ?vb7_6) rfl (by rfl) (by kernel_rfl) (by kernel_rfl) (by kernel_rfl) (fun _ _ _ h => h) (Or.inl ⟨by rfl, ?_⟩) (hS0) ?_
            rotate_left
            · intro wq hSq
              go_simp
              exact rfl
            try simp only [Act.put, List.setIfInBounds_toArray, List.set_cons_zero, List.set_cons_succ]
            refine takeH 8 102 (v := ?vb8_7) rfl (by rfl) (by kernel_rfl) (by kernel_rfl) (by kernel_rfl) (fun _ _ _ h => h) (Or.inl ⟨by rfl, ?_⟩) (hS0) ?_
            rotate_left
            · intro wq hSq
              go_simp
              exact rfl
            try simp only [Act.put, List.setIfInBounds_toArray, List.set_cons_zero, List.set_cons_succ]
            refine takeH 12 106 (v := ?vb12_8) rfl (by rfl) (by kernel_rfl) (by kernel_rfl) (by kernel_rfl) (fun _ _ _ h => h) (Or.inl ⟨by rfl, ?_⟩) (hS0) ?_
            rotate_left
            · intro wq hSq
              go_simp
              exact rfl
            try simp only [Act.put, List.setIfInBounds_toArray, List.set_cons_zero, List.set_cons_succ]
            refine takeH 14 108 (v := ?vb14_9) rfl (by rfl) (by kernel_rfl) (by kernel_rfl) (by kernel_rfl) (fun _ _ _ h => h) (Or.inl ⟨by rfl, ?_⟩) (hS0) ?_
            rotate_left
            · intro wq hSq
              go_simp
              exact rfl
            try simp only [Act.put, List.setIfInBounds_toArray, List.set_cons_zero, List.set_cons_succ]
            refine takeH 4 98 (v := .pointer (some ⟨g, n, none⟩)) rfl (by rfl) (by kernel_rfl) (by kernel_rfl) (by kernel_rfl) (fun _ _ _ h => h) (Or.inl ⟨by rfl, ?_⟩) (hS0) ?_
            · intro wq hSq
              have m0 : IntKind.i64.wrap (n : Int) = (n : Int) := IntWalk.i64_in _ (by omega)
              have n1 : (n : Int) < (n : Int) + 16 := by omega
              have n2 : n < n + 16 := by omega
              go_simp
            try simp only [Act.put, List.setIfInBounds_toArray, List.set_cons_zero, List.set_cons_succ]
            refine takeH 5 99 (v := .int .u32 (un v0)) rfl (by rfl) (by kernel_rfl) (by kernel_rfl) (by kernel_rfl) (fun _ _ _ h => h) (Or.inl ⟨by rfl, ?_⟩) (hS0) ?_
            · intro wq hSq
              have cq := hSq.2 n (by omega)
              go_simp
              exact s0.out
            try simp only [Act.put, List.setIfInBounds_toArray, List.set_cons_zero, List.set_cons_succ]
            refine takeH 9 103 (v := .pointer (some ⟨g, n + 9, none⟩)) rfl (by rfl) (by kernel_rfl) (by kernel_rfl) (by kernel_rfl) (fun _ _ _ h => h) (Or.inl ⟨by rfl, ?_⟩) (hS0) ?_
            · intro wq hSq
              have m0 : IntKind.i64.wrap ((n : Int) + 16 - 7) = (n : Int) + 9 := by rw [IntWalk.i64_in _ (by omega)]; omega
              have n0 : ((n : Int) + 9).toNat = n + 9 := by omega
              have n1 : (n : Int) + 9 < (n : Int) + 16 := by omega
              have n2 : 0 ≤ (n : Int) + 9 := by omega
              go_simp
            try simp only [Act.put, List.setIfInBounds_toArray, List.set_cons_zero, List.set_cons_succ]
            refine takeH 10 104 (v := .int .u32 (un v9)) rfl (by rfl) (by kernel_rfl) (by kernel_rfl) (by kernel_rfl) (fun _ _ _ h => h) (Or.inl ⟨by rfl, ?_⟩) (hS0) ?_
            · intro wq hSq
              have cq := hSq.2 (n + 9) (by omega)
              go_simp
              exact s9.out
            try simp only [Act.put, List.setIfInBounds_toArray, List.set_cons_zero, List.set_cons_succ]
            refine takeH 11 105 (v := ?vb11_10) rfl (by rfl) (by kernel_rfl) (by kernel_rfl) (by kernel_rfl) (fun _ _ _ h => h) (Or.inl ⟨by rfl, ?_⟩) (hS0) ?_
            rotate_left
            · intro wq hSq
              go_simp
              exact rfl
            try simp only [Act.put, List.setIfInBounds_toArray, List.set_cons_zero, List.set_cons_succ]
            refine takeH 13 107 (v := ?vb13_11) rfl (by rfl) (by kernel_rfl) (by kernel_rfl) (by kernel_rfl) (fun _ _ _ h => h) (Or.inl ⟨by rfl, ?_⟩) (hS0) ?_
            rotate_left
            · intro wq hSq
              go_simp
              exact rfl
            try simp only [Act.put, List.setIfInBounds_toArray, List.set_cons_zero, List.set_cons_succ]
            refine takeH 15 109 (v := .int .u32 (un nx)) rfl (by rfl) (by kernel_rfl) (by kernel_rfl) (by kernel_rfl) (fun _ _ _ h => h) (Or.inl ⟨by rfl, ?_⟩) (hS0) ?_
            · intro wq hSq
              go_simp
              rw [HV2.out]
              simp only [un_add]
              rfl
            try simp only [Act.put, List.setIfInBounds_toArray, List.set_cons_zero, List.set_cons_succ]
            refine wpAnyH_ready (rs := [16]) (by kernel_rfl) (by simp) (AllReadyH.cons rfl (fun K hK => ?_) AllReadyH.nil)
            go_simp
            refine hK.out _ _ (And.intro (Below.alloc hS0.1 (Below.size hS0.1) _) (fun j hj => cell_alloc (hS0.2 j hj))) (fun _ => ?_); clear hK K
            refine F_alloc (F := fun W => wpAnyH _ _ _ _ _ _ _ _ W) [.int .u32 (un nx)] rfl ?_
            intro W12 hx12 hb12
            have S12 := And.intro (Below.trans hS0.1 (Below.mono hb12 (Below.size hS0.1))) (fun j hj => cell_below' hb12 (hS0.2 j hj))
            have own12 := own_below own0 hb12
            have sz12 := hb12.size
            refine wpAnyH_ready (rs := [17]) (by kernel_rfl) (by simp) (AllReadyH.cons rfl (fun K hK => ?_) AllReadyH.nil)
            refine step_append_kept rfl _ _ 142 (by rfl) w1.heap.size 27 ti (.int .u32 0) 4 .u32 Tryd.underlying142 hin hz0 hz1 hz2 rfl _ (schedI xs n) (by rfl) own12 (y := un nx) (by rfl) hx12 (by have := SL.out; unfold maxLen; omega) (by have := SL.out; omega) (by omega) ?_
            intro v13 W13 own13 hb13 hk13
            have S13 := And.intro (Below.trans S12.1 hb13) (fun j hj => hk13 g rfl j (by rw [SL.out]; exact hj))
            refine hK.out _ _ (S13) (fun _ => ?_); clear hK K
            refine takeH 18 5 (v := ?vb18_14) rfl (by rfl) (by kernel_rfl) (by kernel_rfl) (by kernel_rfl) (fun _ _ _ h => h) (Or.inl ⟨by rfl, ?_⟩) (S13) ?_
            rotate_left
            · intro wq hSq
              go_simp
              exact rfl
            try simp only [Act.put, List.setIfInBounds_toArray]
            refine wpAnyH_done (by kernel_rfl) ?_ _
            have OWN := Lib.hid own13
            have BB := Lib.hid S13.1
            go_wp2_with fail
            go_roundw
            case rel => exact ⟨n + 1, by omega, by go_num, by rw [S.out]; exact OWN.out, BB.out⟩
            case measure => simp [intOf]; omega
          · obtain rfl : n = 48 := by omega
            obtain ⟨g, cp, hcp, rfl, hcell⟩ := own_form 64 (schedI_len xs 48) hown (by omega)
            clear hlt hn hin hz0 hz1 hz2
            obtain ⟨WR, rfl⟩ : ∃ u : World, u = wr := ⟨_, rfl⟩
            go_wp2_with fail
            refine (constants_is _).mono ?_
            rintro e w2 ⟨rfl, hk, hb⟩
            have hB2 : Below w1.heap.size w1 w2 := below_thru hB hb
            have hG2 : ∀ j, j < 64 → w2.cell? ⟨g, j, none⟩ = some (.int .u32 (un ((sched xs 48).getD j 0))) := fun j hj => by
              rw [← schedI_nth _ _ _ (by omega)]
              exact cell_below' hb (hcell j hj)
            have hK2 : ∀ j, j < 64 → w2.cell? ⟨WR.heap.size, j, none⟩ = some (.int .u32 (un (shaK.getD j 0))) := fun j hj => hk.c j _ (getD_map_wv wv shaK j (by rw [shaK_len]; exact hj))
            have hx2 := Box.below H0.out hB2
            have hr2 := Box.below HR.out hB2
            have hBB := below_thru HB1.out hB2
            have c0 : w2.cell? ⟨w.heap.size, 0, none⟩ = some (.int .u32 (un h.a)) := hx2.c 0 _ rfl
            have c1 : w2.cell? ⟨w.heap.size, 1, none⟩ = some (.int .u32 (un h.b)) := hx2.c 1 _ rfl
            have c2 : w2.cell? ⟨w.heap.size, 2, none⟩ = some (.int .u32 (un h.c)) := hx2.c 2 _ rfl
            have c3 : w2.cell? ⟨w.heap.size, 3, none⟩ = some (.int .u32 (un h.d)) := hx2.c 3 _ rfl
            have c4 : w2.cell? ⟨w.heap.size, 4, none⟩ = some (.int .u32 (un h.e)) := hx2.c 4 _ rfl
            have c5 : w2.cell? ⟨w.heap.size, 5, none⟩ = some (.int .u32 (un h.f)) := hx2.c 5 _ rfl
            have c6 : w2.cell? ⟨w.heap.size, 6, none⟩ = some (.int .u32 (un h.g)) := hx2.c 6 _ rfl
            have c7 : w2.cell? ⟨w.heap.size, 7, none⟩ = some (.int .u32 (un h.z)) := hx2.c 7 _ rfl
            have HK2 := Lib.hid hK2
            have HG2 := Lib.hid hG2
            have H2 := Lib.hid hx2
            have HR2 := Lib.hid hr2
            have HB2 := Lib.hid hBB
            clear hown hB hcell hk hb hB2 hG2 hK2 hx2 hr2 hBB H0 HR HB1 HX
            go_wp2_with fail
            go_quiet (fail)
            go_wp2_with fail
            try simp only [Int.cast_ofNat_Int]
            go_loopw [13, 14, 15, 16, 17, 18, 19, 20, 21] (fun a b c d e f g z i wr => ∃ (t : Nat) (s : W8), t ≤ 64 ∧ i = .int .i64 t ∧ s = rounds (sched xs 48) h t ∧ a = .int .u32 (un s.a) ∧ b = .int .u32 (un s.b) ∧ c = .int .u32 (un s.c) ∧ d = .int .u32 (un s.d) ∧ e = .int .u32 (un s.e) ∧ f = .int .u32 (un s.f) ∧ g = .int .u32 (un s.g) ∧ z = .int .u32 (un s.z) ∧ ∃ q, wr = w2.drewN q) (fun _ _ _ _ _ _ _ _ i _ => 64 - (intOf i).toNat)
            case atStart => exact ⟨0, h, by omega, rfl, rfl, rfl, rfl, rfl, rfl, rfl, rfl, rfl, rfl, _, rfl⟩
            case round =>
              clear c0 c1 c2 c3 c4 c5 c6 c7
              obtain ⟨t, s, ht, rfl, hs, rfl, rfl, rfl, rfl, rfl, rfl, rfl, rfl, q, hw⟩ := hrel
              obtain ⟨W, rfl⟩ : ∃ u : World, u = wr := ⟨_, rfl⟩
              have HW := Lib.hid hw
              clear hw
              have HS' := Lib.hid hs
              clear hs
              by_cases hlt : t < 64
              · have ck : W.cell? ⟨WR.heap.size, t, none⟩ = some (.int .u32 (un (shaK.getD t 0))) := by rw [HW.out]; exact HK2.out t hlt
                have cw : W.cell? ⟨g, t, none⟩ = some (.int .u32 (un ((sched xs 48).getD t 0))) := by rw [HW.out]; exact HG2.out t hlt
                have X := un_xor
                have A := un_addm
                have N := un_and
                have V : ∀ b, bits .xor .u32 IntKind.u32.max (un b) = un (~~~ b) := un_not
                have S := Lib.hid (show rounds (sched xs 48) h (t + 1) = rnd (rounds (sched xs 48) h t) (shaK.getD t 0) ((sched xs 48).getD t 0) from rfl)
                rw [← HS'.out] at S
                generalize shaK.getD t 0 = kt at *
                generalize (sched xs 48).getD t 0 = wt at *
                have b1 : (t : Int) < 64 := by omega
                go_wp2_with fail
                refine wp_region_quiet_lit (by kernel_rfl) (by kernel_rfl) ?_
                iterate 2 (quiet_step (fail))
                quiet_step ((go_at_call 87; exact Calls.quiet_of (turn_any s.e 6 6 (Lib.hid rfl) (by decide) (by decide) _)))
                quiet_step (fail)
                quiet_step ((go_at_call 87; exact Calls.quiet_of (turn_any s.e 11 11 (Lib.hid rfl) (by decide) (by decide) _)))
                iterate 2 (quiet_step (fail))
                quiet_step ((go_at_call 87; exact Calls.quiet_of (turn_any s.e 25 25 (Lib.hid rfl) (by decide) (by decide) _)))
                repeat (quiet_step (fail))
                refine wpQuiet_nil ?_
                intro _ hw'
                obtain ⟨nq, hw''⟩ := hw'
                subst hw''
                go_wp2_with fail
                refine (turn_any s.a _ 2 (Lib.hid rfl) (by decide) (by decide) _).mono ?_
                rintro e w' ⟨rfl, q1, rfl⟩
                go_wp2_with fail
                refine (turn_any s.a _ 13 (Lib.hid rfl) (by decide) (by decide) _).mono ?_
                rintro e w' ⟨rfl, q2, rfl⟩
                go_wp2_with fail
                refine (turn_any s.a _ 22 (Lib.hid rfl) (by decide) (by decide) _).mono ?_
                rintro e w' ⟨rfl, q3, rfl⟩
                go_wp2_with fail
                go_roundw
                case rel =>
                  refine ⟨t + 1, rnd s kt wt, by omega, by go_num, S.out.symm, ?_, ?_, ?_, ?_, ?_, ?_, ?_, ?_, ?_⟩
                  all_goals first | rfl | (rw [HW.out]; simp only [World.drewN_drewN]; exact ⟨_, rfl⟩) | (refine congrArg (Value.int .u32) ?_; simp only [rnd, un, UInt32.toNat_add]; omega)
                case measure => simp [intOf]; omega
              · obtain rfl : t = 64 := by omega
                clear hlt ht HK2 HG2
                have HT := Lib.hid (show taken h xs = plus h s by rw [HS'.out]; rfl)
                have A := un_addm
                have hBX := H2.out.drewN q
                rw [← HW.out] at hBX
                have c0 : W.cell? ⟨w.heap.size, 0, none⟩ = some (.int .u32 (un h.a)) := hBX.c 0 _ rfl
                have c1 : W.cell? ⟨w.heap.size, 1, none⟩ = some (.int .u32 (un h.b)) := hBX.c 1 _ rfl
                have c2 : W.cell? ⟨w.heap.size, 2, none⟩ = some (.int .u32 (un h.c)) := hBX.c 2 _ rfl
                have c3 : W.cell? ⟨w.heap.size, 3, none⟩ = some (.int .u32 (un h.d)) := hBX.c 3 _ rfl
                have c4 : W.cell? ⟨w.heap.size, 4, none⟩ = some (.int .u32 (un h.e)) := hBX.c 4 _ rfl
                have c5 : W.cell? ⟨w.heap.size, 5, none⟩ = some (.int .u32 (un h.f)) := hBX.c 5 _ rfl
                have c6 : W.cell? ⟨w.heap.size, 6, none⟩ = some (.int .u32 (un h.g)) := hBX.c 6 _ rfl
                have c7 : W.cell? ⟨w.heap.size, 7, none⟩ = some (.int .u32 (un h.z)) := hBX.c 7 _ rfl
                have hxr := HR2.out.drewN q
                have hBW := below_drewN HB2.out q
                rw [← HW.out] at hxr hBW
                go_upto_region 21 with fail
                go_wp2_with (refine wpList_store_box (cs := hv (plus h s)) rfl _ _ _ rfl hxr rfl rfl size8 rfl (hv_one _) ?_; intro W3 hW3)
                exact bodyPost_ret (v := .agg (hv (plus h s)).toArray) (results_box Tryd.results81 hW3.box rfl Tryd.underlying117 rfl size8) rfl ⟨by rw [HT.out], hW3.below _ _ (Nat.le_succ _) hBW⟩

end Go.Proofs.YtofjpeplgagihaaDoor

namespace Go.Proofs.YtofjpeplgagihaaDoor
open Go.RowKit

set_option maxRecDepth 100000 in
set_option maxHeartbeats 1600000 in
theorem rdigest_any (h : W8) (w : World) : Calls Tryd.prog 67 #[.agg (hv h).toArray] w fun e w' => e = .returned (dv (dig h)) ∧ Below w.heap.size w w' := by
  obtain ⟨V, hV⟩ : ∃ V, V = hv h := ⟨_, rfl⟩
  have hVg : ∀ i, i < 8 → V[i]? = some (.int .u32 (un (h.l.getD i 0))) := by rw [hV]; exact hv_get h
  rw [← hV]
  have HG := Lib.hid hVg
  clear hVg hV
  go_enter Tryd.func67, Tryd.ntmps67
  go_upto_region 1 with fail
  go_cut [1, 2, 3] (fun p q r wx => p = .pointer (some ⟨w.heap.size, 0, none⟩) ∧ q = .pointer (some ⟨w.heap.size + 1, 0, none⟩) ∧ r = .pointer (some ⟨w.heap.size + 2, 0, none⟩) ∧ Box wx w.heap.size V ∧ Box wx (w.heap.size + 1) ((List.replicate 32 (0 : Int)).map (Value.int .u8)) ∧ Box wx (w.heap.size + 2) ((digS h 0).map (Value.int .u8)) ∧ Below w.heap.size w wx)
  case first =>
    go_wp2_with fail
    go_meet
    refine ⟨rfl, rfl, rfl, Box.alloc (Box.alloc (Box.newc (by simp) rfl) _) _, Box.alloc (Box.newc rfl (by simp)) _, Box.newc (by rw [digS_zero]; rfl) (by simp), ?_⟩
    go_grown
  case rest =>
    obtain ⟨rfl, rfl, rfl, hV, hR, hX, hB⟩ := hcut
    obtain ⟨w1, rfl⟩ : ∃ u : World, u = wc := ⟨_, rfl⟩
    go_wp2_with fail
    go_loopw [4] (fun i wr => ∃ k : Nat, k ≤ 32 ∧ i = .int .i64 k ∧ Box wr w.heap.size V ∧ Box wr (w.heap.size + 1) ((List.replicate 32 (0 : Int)).map (Value.int .u8)) ∧ Box wr (w.heap.size + 2) ((digS h k).map (Value.int .u8)) ∧ Below w.heap.size w wr) (fun i _ => 32 - (intOf i).toNat)
    case atStart => exact ⟨0, by omega, rfl, hV, hR, hX, hB⟩
    case round =>
      clear hV hR hX hB
      obtain ⟨k, hk, rfl, hV, hR, hX, hB⟩ := hrel
      have z1 := hX.lt
      by_cases hlt : k < 32
      · have c0 := hV.c (k / 4) _ (HG.out (k / 4) (by omega))
        have c1 := hX.c k _ (nth_get k (by rw [digS_len]; omega))
        have f1 := hX.f k _ (nth_get k (by rw [digS_len]; omega))
        obtain ⟨s, hs⟩ : ∃ s : Nat, s = 24 - k % 4 * 8 := ⟨_, rfl⟩
        have e1 : (24 : Int) - 8 * ((k : Int) % 4) = (s : Int) := by omega
        have s1 : s ≤ 24 := by omega
        have E : un (h.l.getD (k / 4) 0) / 2 ^ s % 256 = digB h k := by rw [hs]; rfl
        have S := Lib.hid (digS_succ h k hlt)
        clear hs
        generalize h.l.getD (k / 4) 0 = v at *
        generalize digB h k = D at *
        go_wp2_with fail
        go_roundw
        case rel =>
          refine ⟨k + 1, by omega, by go_num, hV.other (by show w.heap.size + 2 ≠ w.heap.size; omega) _, hR.other (by show w.heap.size + 2 ≠ w.heap.size + 1; omega) _, ?_, hB.setCell (show w.heap.size ≤ w.heap.size + 2 by omega) _⟩
          rw [← S.out, List.map_set]
          exact hX.set k _
        case measure => simp [intOf]; omega
      · obtain rfl : k = 32 := by omega
        obtain ⟨R, hRe⟩ : ∃ R, R = (digS h 32).map (Value.int .u8) := ⟨_, rfl⟩
        have hRl : R.length = 32 := by rw [hRe, List.length_map, digS_len]
        have hRo : R.toArray.all (·.oneCell') = true := by rw [hRe]; exact oneCell_ints _
        have HRE := Lib.hid (show (Value.agg R.toArray) = dv (dig h) by rw [hRe, digS_all]; rfl)
        rw [← hRe] at hX
        clear hRe hlt hk
        have I32 := Lib.hid (show (Tryd.prog.info? 23).map (·.size) = some R.length by rw [hRl]; exact size32)
        have HLL := Lib.hid (show ((List.replicate 32 (0 : Int)).map (Value.int .u8)).length = R.length by rw [hRl]; rfl)
        have HRO := Lib.hid hRo
        clear hRl hRo
        go_upto_region 6 with fail
        go_wp2_with (first | (refine wpList_load_box rfl _ _ rfl hX rfl Tryd.underlying23 rfl I32.out ?_) | (refine wpList_store_box rfl _ _ _ rfl hR rfl rfl I32.out HLL.out HRO.out ?_; intro W3 hW3))
        exact bodyPost_ret (v := .agg R.toArray) (results_box Tryd.results67 hW3.box rfl Tryd.underlying23 rfl I32.out) rfl ⟨by rw [HRE.out], hW3.below _ _ (by omega) hB⟩


theorem rtaken_is {h T : W8} {v : Value} {xs : List Int} (w : World) (hT : Hid (taken h xs = T)) (hi : IsL w .u8 v xs) (hl : Hid (xs.length = 64)) (hx : Hid (bytesL xs)) :
    Calls Tryd.prog 81 #[.agg (hv h).toArray, v] w fun e w' => e = .returned (.agg (hv T).toArray) ∧ Below w.heap.size w w' := by
  obtain ⟨at0, cap, rfl, hi, h0⟩ := hi
  rw [← hT.out]
  exact rtaken_any h at0 cap xs w hi hl.out (by have := hx.out; unfold bytesL at this; rw [hl.out] at this; exact this)
set_option maxRecDepth 100000 in
set_option maxHeartbeats 3200000 in
theorem rafter_any {T0 T : W8} {a0 : Option Addr} {c0 : Nat} {xs : List Int} (w : World) (q0 : xs.length ≤ 1000000) (hT : Hid (after T0 xs = T)) (i0 : Hid (IsL w .u8 (.slice a0 xs.length c0) xs)) (b0 : Hid (bytesL xs)) :
    Calls Tryd.prog 68 #[.agg (hv T0).toArray, .slice a0 xs.length c0] w fun e w' => e = .returned (.agg (hv T).toArray) ∧ Below w.heap.size w w' := by
  obtain ⟨V, hV⟩ : ∃ V, V = hv T0 := ⟨_, rfl⟩
  rw [← hV]
  have HV := Lib.hid hV
  have m0 := i0.out.room
  have m1 := m0.2.1
  have m2 := m0.2.2
  clear hV m0
  go_enter Tryd.func68, Tryd.ntmps68
  go_wp2_with fail
  go_loopw [5] (fun i wr => ∃ k : Nat, 64 * k ≤ xs.length ∧ i = .int .i64 ((64 * k : Nat) : Int) ∧ Box wr w.heap.size (hv (aft k T0 xs)) ∧ Box wr (w.heap.size + 1) (List.replicate 8 (.int .u32 0)) ∧ Below w.heap.size w wr) (fun i _ => xs.length - (intOf i).toNat)
  case atStart => exact ⟨0, Nat.zero_le _, rfl, Box.alloc (Box.newc (by rw [HV.out]; rfl) rfl) _, Box.newc rfl (by simp), by go_grown⟩
  case round =>
    obtain ⟨k, hk, rfl, hxw, hxr, hB⟩ := hrel
    obtain ⟨m, hm⟩ : ∃ m, m = 64 * k := ⟨_, rfl⟩
    rw [← hm]
    have hsz := hB.size
    have hz0 := hxw.lt
    by_cases hlt : m + 64 ≤ xs.length
    · obtain ⟨ba, oa, rfl, _⟩ := i0.out.get 0 (by omega)
      have hsub0 : IsL wr .u8 (.slice (some ⟨ba, oa + m, none⟩) 64 (c0 - m)) ((xs.drop m).take 64) := (IsL.off (IsL.below i0.out hB) m (by omega)).sub 64 (by omega)
      obtain ⟨Tk, hTk⟩ : ∃ Tk, aft k T0 xs = Tk := ⟨_, rfl⟩
      rw [hTk] at hxw
      obtain ⟨B, hB'⟩ : ∃ B, (xs.drop m).take 64 = B := ⟨_, rfl⟩
      obtain ⟨Tn, hTn⟩ : ∃ Tn, taken Tk B = Tn := ⟨_, rfl⟩
      have HTn := Lib.hid hTn
      have HTs := Lib.hid (show aft (k + 1) T0 xs = Tn by rw [aft_succ, hTk, ← hm, hB', hTn])
      have hl64 := Lib.hid (show B.length = 64 by rw [← hB', List.length_take, List.length_drop]; omega)
      have hb64 := Lib.hid (show bytesL B by rw [← hB']; exact (b0.out.drop m).take 64)
      rw [hB'] at hsub0
      have hsub := Lib.hid hsub0
      have ne : ¬ c0 = m := by omega
      have MM := Lib.hid hm
      have z64 : IntKind.i64.wrap ((m : Int) + 64) = (m : Int) + 64 := IntWalk.i64_in _ (by omega)
      have d64 : decide ((m : Int) + 64 ≤ (xs.length : Int)) = true := decide_eq_true (by omega)
      clear hsub0 hTn hTk hB' hm
      go_upto_region 4 with fail
      refine wp_region_any (by kernel_rfl) ?_
      try (change wpAny _ _ _ _ _ _ _ (World.drew _))
      refine wpAny_take (i := 1) (v := .slice (some ⟨ba, oa, none⟩) xs.length c0) rfl (by kernel_rfl) (by kernel_rfl) (by kernel_rfl) (fun _ _ _ h => h) (Or.inl ⟨by rfl, ?_⟩) ?_
      · intro w; go_simp
      refine wpAny_take (i := 2) (v := .int .i64 (m : Int)) rfl (by kernel_rfl) (by kernel_rfl) (by kernel_rfl) (fun _ _ _ h => h) (Or.inl ⟨by rfl, ?_⟩) ?_
      · intro w; go_simp
      refine wpAny_take (i := 3) (v := .int .i64 (m : Int)) rfl (by kernel_rfl) (by kernel_rfl) (by kernel_rfl) (fun _ _ _ h => h) (Or.inl ⟨by rfl, ?_⟩) ?_
      · intro w; go_simp
      refine wpAny_take (i := 4) (v := .int .i64 ((m : Int) + 64)) rfl (by kernel_rfl) (by kernel_rfl) (by kernel_rfl) (fun _ _ _ h => h) (Or.inl ⟨by rfl, ?_⟩) ?_
      · intro w; go_simp
      refine wpAny_take (i := 5) (v := .slice (some ⟨ba, oa + m, none⟩) 64 (c0 - m)) rfl (by kernel_rfl) (by kernel_rfl) (by kernel_rfl) (fun _ _ _ h => h) (Or.inl ⟨by rfl, ?_⟩) ?_
      · intro w; go_simp
        rw [if_pos (show 0 ≤ (m : Int) + 64 ∧ (m : Int) + 64 ≤ (c0 : Int) by omega), if_pos (show m ≤ ((m : Int) + 64).toNat by omega), show ((m : Int) + 64).toNat - m = 64 by omega]
      refine wpAny_ready (rs := [0]) (by kernel_rfl) (by simp) (AllReady.cons rfl (fun K hK => ?_) AllReady.nil)
      refine step_load_box rfl _ _ rfl hxw.drew rfl Tryd.underlying117 rfl size8 ?_
      refine hK _ _ ?_; clear hK K
      refine wpAny_ready (rs := [6]) (by kernel_rfl) (by simp) (AllReady.cons rfl (fun K hK => ?_) AllReady.nil)
      go_simp
      refine (rtaken_is _ HTn hsub.out.drew hl64 hb64).mono ?_
      rintro e w1 ⟨rfl, hb⟩
      refine hK _ _ ?_; clear hK K
      have hB1 : Below w.heap.size w w1 := below_thru hB.drew hb
      have hT2 : Box w1 w.heap.size (hv Tk) := hxw.drew.below hb
      have hO2 : Box w1 (w.heap.size + 1) (List.replicate 8 (.int .u32 0)) := hxr.drew.below hb
      clear hb
      refine wpAny_ready (rs := [7]) (by kernel_rfl) (by simp) (AllReady.cons rfl (fun K hK => ?_) AllReady.nil)
      refine step_store_box (cs := hv Tn) rfl _ _ _ rfl hT2 rfl rfl size8 rfl (hv_one _) ?_
      intro W hW
      refine hK _ _ ?_; clear hK K
      refine wpAny_done (by kernel_rfl) ?_ _
      go_wp2_with fail
      go_roundw
      case rel => exact ⟨k + 1, by have := MM.out; omega, by rw [show 64 * (k + 1) = m + 64 by have := MM.out; omega]; go_num, by rw [HTs.out]; exact hW.box, hW.past _ _ (by omega) hO2, hW.below _ _ (Nat.le_refl _) hB1⟩
      case measure => simp [intOf]; omega
    · have hkx : xs.length / 64 = k := by omega
      have hTk : aft k T0 xs = T := by rw [← hT.out]; unfold after; rw [hkx]
      rw [hTk] at hxw
      have z64 : IntKind.i64.wrap ((m : Int) + 64) = (m : Int) + 64 := IntWalk.i64_in _ (by omega)
      have d64 : decide ((m : Int) + 64 ≤ (xs.length : Int)) = false := decide_eq_false (by omega)
      clear hkx hTk hm hlt
      go_wp2_with (first | (refine wpList_load_box rfl _ _ rfl hxw rfl Tryd.underlying117 rfl size8 ?_) | (refine wpList_store_box (cs := hv T) rfl _ _ _ rfl hxr rfl rfl size8 rfl (hv_one _) ?_; intro W hW))
      exact bodyPost_ret (v := .agg (hv T).toArray) (results_box Tryd.results68 hW.box rfl Tryd.underlying117 rfl size8) rfl ⟨rfl, hW.below _ _ (Nat.le_succ _) hB⟩

/-- A padding as it grows: its zeros, its last bytes. -/
def padG (n z k : Nat) : List Int := 128 :: (List.replicate z 0 ++ (List.range k).map (padB n))
theorem padG_len (n z k : Nat) : (padG n z k).length = 1 + z + k := by simp [padG]; omega
theorem padG_zero (n z : Nat) : padG n (z + 1) 0 = padG n z 0 ++ [0] := by simp [padG, List.replicate_succ']
theorem padG_succ (n z k : Nat) : padG n z (k + 1) = padG n z k ++ [padB n k] := by simp [padG, List.range_succ]
theorem padG_all (n : Nat) : padG n (63 - (n + 8) % 64) 8 = padL n := rfl
set_option maxRecDepth 100000 in
set_option maxHeartbeats 3200000 in
theorem rpadding_any (n : Nat) (w : World) (hn : n ≤ 128000) :
    Calls Tryd.prog 70 #[.int .i64 (n : Int)] w fun e w' => ∃ v, e = .returned v ∧ IsL w' .u8 v (padL n) ∧ Below w.heap.size w w' := by
  obtain ⟨z, hz⟩ : ∃ z : Nat, z = 63 - (n + 8) % 64 := ⟨_, rfl⟩
  obtain ⟨ti, hin, hz0, hz1, hz2⟩ := info8
  have hz2' : z ≤ 63 := by omega
  have HZ := Lib.hid hz
  have own1 := owns_built (w := w) (base := w.heap.size) (e := 5) [.int .u8 128] (Nat.le_refl _) (by unfold maxLen; simp)
  clear hz
  go_enter Tryd.func70, Tryd.ntmps70
  go_wp2_with fail
  go_loopw [3] (fun v wr => ∃ k : Nat, k ≤ z ∧ wr.ownsRow w.heap.size 5 1 v (padG n k 0).length ((padG n k 0).map (Value.int .u8)) ∧ Below w.heap.size w wr) (fun v _ => 64 - lenOf v)
  case atStart => exact ⟨0, by omega, own1, by go_grown⟩
  case round =>
    clear own1
    obtain ⟨k, hk, hown, hB⟩ := hrel
    obtain ⟨g, cp, hcp, rfl, hcell⟩ := own_form (1 + k) (padG_len n k 0) hown (by omega)
    clear hcell
    have LK := padG_len n k 0
    have hsz := hB.size
    by_cases hlt : k < z
    · have e1 : ((n : Int) + (1 + (k : Int)) + 8) % 64 = 64 - ((z - k : Nat) : Int) := by have := HZ.out; omega
      have e2 : ((64 - ((z - k : Nat) : Int)) != 0) = true := by rw [bne_iff_ne]; omega
      have S := Lib.hid (padG_zero n k)
      go_wp2_with (at_builtin; refine wpList_append_onto rfl _ _ 62 rfl w.heap.size 5 ti (.int .u8 0) 1 .u8 Tryd.underlying62 hin hz0 hz1 hz2 rfl _ (padG n k 0) [0] _ rfl rfl (World.ownsRow.alloc hown _) (IsL.built [0] rfl rfl rfl rfl (by simp)) (by unfold maxLen; simp <;> omega) (by simp <;> omega) (by simp; omega) ?_; intro va wa howa hba)
      go_roundw
      case rel => exact ⟨k + 1, by omega, by rw [S.out]; exact howa, (hB.alloc hsz _).trans hba⟩
      case measure =>
        obtain ⟨g', cp', _, rfl, _⟩ := own_form (1 + k + 1) (by rw [List.length_append, LK]; rfl) howa (by omega)
        simp [lenOf]; omega
    · obtain rfl : k = z := by omega
      have e1 : ((n : Int) + (1 + (k : Int)) + 8) % 64 = 0 := by have := HZ.out; omega
      clear hlt hk LK hsz
      go_wp2_with fail
      clear e1
      go_loopw [3, 4] (fun v i wr => ∃ j : Nat, j ≤ 8 ∧ i = .int .i64 (7 - (j : Int)) ∧ wr.ownsRow w.heap.size 5 1 v (padG n k j).length ((padG n k j).map (Value.int .u8)) ∧ Below w.heap.size w wr) (fun _ i _ => (intOf i + 1).toNat)
      case atStart => exact ⟨0, by omega, rfl, hown, hB⟩
      case round =>
        clear hown hB
        obtain ⟨j, hj, rfl, hown, hB⟩ := hrel
        obtain ⟨g2, cp2, hcp2, rfl, hcell⟩ := own_form (1 + k + j) (padG_len n k j) hown (by omega)
        clear hcell
        have LK := padG_len n k j
        have hsz := hB.size
        by_cases hlt : j < 8
        · obtain ⟨s, hs⟩ : ∃ s : Nat, s = 8 * (7 - j) := ⟨_, rfl⟩
          have e1 : (8 : Int) * (7 - (j : Int)) = (s : Int) := by omega
          have s1 : s ≤ 56 := by omega
          have E : 8 * (n : Int) / 2 ^ s % 256 = padB n j := by
            rw [hs]
            unfold padB
            simp
          have d0 : decide ((0 : Int) ≤ 7 - (j : Int)) = true := decide_eq_true (by omega)
          have S := Lib.hid (padG_succ n k j)
          clear hs
          generalize padB n j = P at *
          go_wp2_with (at_builtin; refine wpList_append_onto rfl _ _ 62 rfl w.heap.size 5 ti (.int .u8 0) 1 .u8 Tryd.underlying62 hin hz0 hz1 hz2 rfl _ (padG n k j) [P] _ rfl rfl (World.ownsRow.alloc hown _) (IsL.built [P] rfl rfl rfl rfl (by simp)) (by unfold maxLen; simp <;> omega) (by simp <;> omega) (by simp; omega) ?_; intro va wa howa hba)
          go_roundw
          case rel => exact ⟨j + 1, by omega, congrArg (Value.int .i64) (by omega), by rw [S.out]; exact howa, (hB.alloc hsz _).trans hba⟩
          case measure => simp [intOf]; omega
        · obtain rfl : j = 8 := by omega
          have d0 : decide ((0 : Int) ≤ 7 - ((8 : Nat) : Int)) = false := decide_eq_false (by omega)
          go_wp2_with fail
          go_ret
          have hpl : padG n k 8 = padL n := by rw [← padG_all, ← HZ.out]
          rw [hpl] at hown
          exact ⟨_, rfl, IsL.own hown rfl, hB⟩

end Go.Proofs.YtofjpeplgagihaaDoor

namespace Go.Proofs.YtofjpeplgagihaaDoor
open Go.RowKit

/-- What Pad answers. -/
def padOut (n : Int) : List Int × Int := if cntB n = true then (padL n.toNat, 0) else ([], 2)
/-- What Block answers. -/
def blockOut (T : W8) (xs : List Int) : W8 × Int := if xs.length = 64 then (taken T xs, 0) else (zeroW, 2)
theorem rdigest_is {h : W8} {D : List Int} (w : World) (hD : Hid (dig h = D)) : Calls Tryd.prog 67 #[.agg (hv h).toArray] w fun e w' => e = .returned (dv D) ∧ Below w.heap.size w w' := by
  rw [← hD.out]; exact rdigest_any h w
theorem rafter_is {T0 T : W8} {v : Value} {xs : List Int} (w : World) (q0 : xs.length ≤ 1000000) (hT : Hid (after T0 xs = T)) (i0 : Hid (IsL w .u8 v xs)) (b0 : Hid (bytesL xs)) :
    Calls Tryd.prog 68 #[.agg (hv T0).toArray, v] w fun e w' => e = .returned (.agg (hv T).toArray) ∧ Below w.heap.size w w' := by
  obtain ⟨a0, c0, rfl, hi, h0⟩ := id i0.out
  exact rafter_any w q0 hT i0 b0
theorem build_hash0 (T : W8) (w : World) : (Instr.build 134 #[(0, .agg (hv T).toArray)]).run Tryd.prog w = .ok (.agg (hashV T (.slice none 0 0) 0).toArray) w := by kernel_rfl
theorem wpList_build_hash0 {ops : Array Oper} {rest : List Oper} {o : Oper} {a : Act} {w : World} {Q : Exit → Act → World → Prop} (hgd : o.guard = none) (x : Operand) (ho : o.op = .build 134 #[(0, x)]) (T : W8)
    (hx : a.eval x = .agg (hv T).toArray)
    (h : wpList Tryd.prog ops Q rest (a.put o.dst (.agg (hashV T (.slice none 0 0) 0).toArray)) w) : wpList Tryd.prog ops Q (o :: rest) a w :=
  wpList_plain hgd fun kb hK => by
    have hb := build_hash0 T w
    have hK2 := hK _ _ h
    generalize hashV T (.slice none 0 0) 0 = L at *
    unfold Oper.wp execOp
    simp only [ho, List.map_toArray, List.map, hx, Sem.run_bind, hb, Result.andThen_ok, Sem.run_pure]
    exact hK2
end Go.Proofs.YtofjpeplgagihaaDoor

namespace Go.Proofs.YtofjpeplgagihaaDoor
open Go.RowKit

set_option maxRecDepth 100000 in
set_option maxHeartbeats 1600000 in
theorem rof_is {v : Value} {xs D : List Int} (w : World) (hi : Hid (IsL w .u8 v xs)) (hl : xs.length ≤ 128000) (hx : Hid (bytesL xs)) (hD : Hid (shaOf xs = D)) :
    Calls Tryd.prog 50 #[v] w fun e w' => e = .returned (dv D) ∧ Below w.heap.size w w' := by
  obtain ⟨a0, c0, rfl, hin0, h0⟩ := id hi.out
  have m1 := hin0.room
  have m2 := hin0.most
  clear hin0 h0
  obtain ⟨T, hT⟩ : ∃ T, after first (xs ++ padL xs.length) = T := ⟨_, rfl⟩
  have hd : dig T = D := by rw [← hD.out, ← hT]; rfl
  obtain ⟨P, hP⟩ : ∃ P, padL xs.length = P := ⟨_, rfl⟩
  rw [hP] at hT
  have HT := Lib.hid hT
  have HP := Lib.hid hP
  have hpl : P.length ≤ 72 := by rw [← hP, padL_len]; omega
  have HPB := Lib.hid (show bytesL (xs ++ P) by rw [← hP]; exact hx.out.append (padL_bytes _))
  have HDD := Lib.hid hd
  have hdl := Lib.hid (show (D.map (Value.int .u8)).length = 32 by rw [← hd, List.length_map, dig_len])
  have I32 := Lib.hid (show (Tryd.prog.info? 23).map (·.size) = some (D.map (Value.int .u8)).length by rw [hdl.out]; exact size32)
  have HLL := Lib.hid (show zero32.length = (D.map (Value.int .u8)).length by rw [hdl.out]; rfl)
  obtain ⟨ti, hin, hz0, hz1, hz2⟩ := info8
  clear hT hP hd
  go_enter Tryd.func50, Tryd.ntmps50
  go_wp2_with fail
  refine (rfirst_is _).mono ?_
  rintro e w1 ⟨rfl, hb⟩
  have hB1 : Below w.heap.size w w1 := below_thru (by go_grown) hb
  have hxr1 : Box w1 w.heap.size zero32 := Box.below (Box.newc rfl rfl) hb
  have hs1 := hB1.size
  clear hb
  go_wp2_with (at_builtin; refine wpList_append_built rfl _ _ 62 rfl 5 ti (.int .u8 0) 1 .u8 Tryd.underlying62 hin hz0 hz1 hz2 rfl [] xs _ (.slice a0 xs.length c0) _ _ _ rfl rfl rfl rfl rfl rfl (IsL.below hi.out hB1) (by unfold maxLen; simp <;> omega) (by simp <;> omega) ?_; intro va wa howa hba)
  refine (rpadding_any xs.length _ hl).mono ?_
  rintro e w3 ⟨vp, rfl, hp, hb3⟩
  rw [HP.out] at hp
  have howb := own_below howa hb3
  have hbc : Below w1.heap.size w1 w3 := below_thru hba hb3
  have hs3 := hbc.size
  clear howa hba hb3
  go_wp2_with (at_builtin; refine wpList_append_onto rfl _ _ 62 rfl w1.heap.size 5 ti (.int .u8 0) 1 .u8 Tryd.underlying62 hin hz0 hz1 hz2 rfl va ([] ++ xs) P vp rfl rfl howb hp (by unfold maxLen; simp <;> omega) (by simp <;> omega) hs3 ?_; intro vc wc howc hbd)
  have hB4 : Below w.heap.size w wc := hB1.trans ((hbc.trans hbd).mono hs1)
  have hxr4 : Box wc w.heap.size zero32 := hxr1.below (hbc.trans hbd)
  have hA := Lib.hid (show IsL wc .u8 vc (xs ++ P) from IsL.own howc rfl)
  clear howb howc hbc hbd hxr1 hp hin hz0 hz1 hz2
  refine (rafter_is _ (by rw [List.length_append]; omega) HT hA HPB).mono ?_
  rintro e w5 ⟨rfl, hb⟩
  have hB5 : Below w.heap.size w w5 := below_thru hB4 hb
  have hxr5 := hxr4.below hb
  clear hb hB4 hxr4 hA
  go_wp2_with fail
  refine (rdigest_is _ HDD).mono ?_
  rintro e w6 ⟨rfl, hb⟩
  have hB6 : Below w.heap.size w w6 := below_thru hB5 hb
  have hxr6 := hxr5.below hb
  clear hb hB5 hxr5
  go_wp2_with (refine wpList_store_box (cs := D.map (Value.int .u8)) rfl _ _ _ rfl hxr6 rfl rfl I32.out HLL.out (oneCell_ints _) ?_; intro W3 hW3)
  exact bodyPost_ret (v := dv D) (results_box Tryd.results50 hW3.box rfl Tryd.underlying23 rfl I32.out) rfl ⟨rfl, hW3.below _ _ (Nat.le_refl _) hB6⟩

end Go.Proofs.YtofjpeplgagihaaDoor
