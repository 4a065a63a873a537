/-
  The reference of layer 5: words out of bytes, append that keeps the old row, the constants, the first words.
-/
import Derived.Test.YtfobjdkpdeiidaaDoorShaK
import Derived.Deep.AppendLies
namespace Go.Proofs.YtfobjdkpdeiidaaDoor
open Go.RowKit

theorem part_next (b : List Int) (j m : Nat) (h : un (part b j m) * 256 < 4294967296) (h0 : 0 ≤ nth b (4 * j + m)) (h1 : nth b (4 * j + m) < 256) : un (part b j (m + 1)) = un (part b j m) * 256 + nth b (4 * j + m) := by
  show un ((part b j m <<< 8) ||| byteW (nth b (4 * j + m))) = _
  obtain ⟨x, hx⟩ : ∃ x : Nat, nth b (4 * j + m) = (x : Int) := ⟨(nth b (4 * j + m)).toNat, by omega⟩
  rw [hx] at h0 h1 ⊢
  have h1' : x < 256 := by omega
  unfold un at h ⊢
  have e1 : (byteW (x : Int)).toNat = x := by
    have := byteW_un (x : Int) h0 h1
    unfold un at this
    omega
  have e2 : (part b j m <<< 8).toNat = (part b j m).toNat * 256 := by
    rw [UInt32.toNat_shiftLeft, Nat.shiftLeft_eq]
    show (part b j m).toNat * 256 % 4294967296 = _
    omega
  rw [UInt32.toNat_or, e1, e2]
  have e3 : (part b j m).toNat * 256 ||| x = (part b j m).toNat * 256 + x := by
    have := Nat.shiftLeft_add_eq_or_of_lt (i := 8) (b := x) (by omega) (part b j m).toNat
    rw [Nat.shiftLeft_eq] at this
    exact this.symm
  rw [e3]
  omega
theorem word_sum (b : List Int) (j : Nat) (h : ∀ m, m < 4 → 0 ≤ nth b (4 * j + m) ∧ nth b (4 * j + m) < 256) :
    un (wordAt b j) = nth b (4 * j) * 16777216 + nth b (4 * j + 1) * 65536 + nth b (4 * j + 2) * 256 + nth b (4 * j + 3) := by
  have a0 := h 0 (by omega)
  have a1 := h 1 (by omega)
  have a2 := h 2 (by omega)
  have a3 := h 3 (by omega)
  have p0 : un (part b j 0) = 0 := rfl
  have p1 := part_next b j 0 (by rw [p0]; omega) a0.1 a0.2
  have p2 := part_next b j 1 (by rw [p1, p0]; simp only [Nat.add_zero] at *; omega) a1.1 a1.2
  have p3 := part_next b j 2 (by rw [p2, p1, p0]; simp only [Nat.add_zero] at *; omega) a2.1 a2.2
  have p4 := part_next b j 3 (by rw [p3, p2, p1, p0]; simp only [Nat.add_zero] at *; omega) a3.1 a3.2
  show un (part b j 4) = _
  rw [p4, p3, p2, p1, p0]
  simp only [Nat.add_zero] at *
  omega
/-- The first words of a block, as numbers; the schedule so far, as numbers. -/
def words16 (b : List Int) (k : Nat) : List Int := (List.range k).map fun j => un (wordAt b j)
theorem words16_len (b : List Int) (k : Nat) : (words16 b k).length = k := by simp [words16]
theorem words16_succ (b : List Int) (k : Nat) : words16 b (k + 1) = words16 b k ++ [un (wordAt b k)] := by simp [words16, List.range_succ]
def schedI (b : List Int) (n : Nat) : List Int := (sched b n).map un
theorem schedI_len (b : List Int) (n : Nat) : (schedI b n).length = n + 16 := by simp [schedI, sched_len]
theorem words16_all (b : List Int) : words16 b 16 = schedI b 0 := by simp [words16, schedI, sched, Function.comp_def]
theorem schedI_succ (b : List Int) (n : Nat) : schedI b (n + 1) = schedI b n ++ [un (next (sched b n))] := by simp [schedI, sched]
theorem schedI_nth (b : List Int) (n j : Nat) (h : j < n + 16) : nth (schedI b n) j = un ((sched b n).getD j 0) := by
  unfold nth schedI
  have hl : j < (sched b n).length := by rw [sched_len]; exact h
  rw [List.getD_eq_getElem?_getD, List.getElem?_map, List.getElem?_eq_getElem hl, List.getD_eq_getElem?_getD, List.getElem?_eq_getElem hl]
  rfl

/-- Behind an append of one number onto a row of the call's own: the new row, and the old one as it was. -/
theorem run_append_kept {P : Program} (w : World) (base : Nat) (t ty e : TypeId) (i : TypeInfo) (z : Value) (bytes : Nat) (ht : P.underlying t = some (.slice e)) (hi : P.info? e = some i) (hz : i.zero = some z)
    (hsize : i.size = 1) (hby : i.bytes = bytes) (hzs : z.cells.size = 1)
    (v : Value) (n : Nat) (xs : List Value) (hown : w.ownsRow base e 1 v n xs)
    (a : Addr) (m c : Nat) (news : List Value) (hl : news.length = m * 1) (hnews : ∀ j u, news[j]? = some u → w.cell? (a.add j) = some u) (h1 : ∀ u ∈ news, u.oneCell' = true)
    (h63 : n + m ≤ maxLen) (hbytes : (n + m) * bytes ≤ 140737488355328) (hbase : base ≤ w.heap.size) :
    ∃ v' w', (Builtin.append_ #[t, t] ty #[v, .slice (some a) m c]).run P w = .ok v' w' ∧ w'.ownsRow base e 1 v' (n + m) (xs ++ news) ∧ w.grownBy w' v.ownBlock ∧
      ∀ g, v.ownBlock = some g → ∀ j u, xs[j]? = some u → w'.cell? ⟨g, j, none⟩ = some u := by
  obtain ⟨v', w', hr, ho, hg, _, _⟩ := run_append_own_at (P := P) w base t ty e i z 1 bytes ht hi hz hsize hby hzs (by omega) v n xs hown a m c news hl hnews h1 h63 hbytes hbase
  refine ⟨v', w', hr, ho, hg, fun g hv j u hu => ?_⟩
  have add0 : ∀ j, (⟨g, 0, none⟩ : Addr).add j = ⟨g, j, none⟩ := fun j => by simp [Go.WideShapes.add_plain]
  rcases id hown.2 with ⟨rfl, rfl⟩ | ⟨g', cap, cur, rfl, hbg, hgg, hnc, hcm, hcs, htake⟩
  · cases hv
  · cases hv
    by_cases hroom : n + m ≤ cap
    · have hfit : n * i.size + news.length ≤ cur.size := by rw [hl, hcs, hsize]; omega
      have hr' := run_append_room (P := P) w t ty e i ht hi g' n cap cur hgg a m c news (by rw [hl, hsize]) hnews h1 hroom hfit
      rw [hr] at hr'
      injection hr' with e1 e2
      subst e1
      have := ho.cells (g := g') rfl j u (by rw [List.getElem?_append_left (List.getElem?_eq_some_iff.1 hu).1]; exact hu)
      rw [add0] at this
      exact this
    · have holds := hown.cells (g := g') rfl
      have hr' := run_append_grow (P := P) w t ty e i z ht hi hz ⟨g', 0, none⟩ n cap xs (by rw [hown.1, hsize]) holds a m c news (by rw [hl, hsize]) hnews (by omega) (by unfold maxLen at h63; omega) (growslice_fits (by omega) (by rw [hby]; exact hbytes))
      rw [hr] at hr'
      injection hr' with e1 e2
      have := holds j u hu
      rw [add0] at this
      rw [e2]
      exact cell_alloc (w := w.drew) this
theorem step_append_kept {P : Program} {w : World} {ops : Array Oper} {o : Oper} {a : Act} {K : Act → World → Prop} {Q : Exit → Act → World → Prop} {E : Prop} (hgd : o.guard = none) (s x : Operand) (t : TypeId)
    (ho : o.op = .call { callee := .builtin .append, args := #[s, x], argTypes := #[t, t] })
    (base : Nat) (e : TypeId) (i : TypeInfo) (z : Value) (bytes : Nat) (k : IntKind) (ht : P.underlying t = some (.slice e)) (hi : P.info? e = some i) (hz : i.zero = some z)
    (hsize : i.size = 1) (hby : i.bytes = bytes) (hzs : z.cells.size = 1)
    (v : Value) (xs : List Int) (hs : a.eval s = v) (hown : w.ownsRow base e 1 v xs.length (xs.map (Value.int k)))
    {b : Nat} {y : Int} (hx : a.eval x = .slice (some ⟨b, 0, none⟩) 1 1) (hb : Box w b [.int k y])
    (h63 : xs.length + 1 ≤ maxLen) (hbytes : (xs.length + 1) * bytes ≤ 140737488355328) (hbase : base ≤ w.heap.size)
    (h : ∀ v' w', w'.ownsRow base e 1 v' (xs ++ [y]).length ((xs ++ [y]).map (Value.int k)) → Below base w w' → (∀ g, v.ownBlock = some g → ∀ j, j < xs.length → w'.cell? ⟨g, j, none⟩ = some (.int k (nth xs j))) → K (a.put o.dst v') w') :
    if Region.wanted o (yielded ops a.tmps) = true then Oper.wp P o a w K Q else E := by
  have hw : Region.wanted o (yielded ops a.tmps) = true := by simp [Region.wanted, hgd]
  rw [if_pos hw]
  obtain ⟨v', w', hr, h2, h3, h4⟩ := run_append_kept (P := P) w base t o.type e i z bytes ht hi hz hsize hby hzs v xs.length (xs.map (Value.int k)) hown ⟨b, 0, none⟩ 1 1 [.int k y] rfl
    (fun j u hu => by
      have := hb.c j u hu
      simpa [Go.WideShapes.add_plain] using this) (fun u hu => by simp at hu; subst hu; rfl) h63 hbytes hbase
  have hk := h v' w' (by simpa using h2) ((Below.refl base w).grown h3 hbase (own_block hown)) (fun g hg j hj => h4 g hg j _ (nth_get j hj))
  unfold Oper.wp execOp
  simp only [ho, resolve, invoke, builtin, Sem.run_bind, Sem.run_pure, Result.andThen_ok, List.map_toArray, List.map_cons, List.map_nil, hs, hx, hr]
  exact hk

set_option maxRecDepth 100000 in
theorem info_u32 : (Tryd.prog.info? 58).map (fun i => (i.zero, i.size, i.bytes)) = some (some (.int .u32 0), 1, 4) := by kernel_rfl
set_option maxRecDepth 100000 in
theorem constants_is (w : World) : Calls Tryd.prog 49 #[] w fun e w' => e = .returned (.slice (some ⟨w.heap.size, 0, none⟩) 64 64) ∧ Box w' w.heap.size (shaK.map wv) ∧ Below w.heap.size w w' := by
  go_enter Tryd.func49, Tryd.ntmps49
  go_wp2
  go_returns
  exact ⟨rfl, Box.newc (by kernel_rfl) rfl, (Below.refl _ _).alloc (Nat.le_refl _) _⟩
set_option maxRecDepth 100000 in
theorem rfirst_is (w : World) : Calls Tryd.prog 37 #[] w fun e w' => e = .returned (.agg (hv first).toArray) ∧ Below w.heap.size w w' := by
  go_enter Tryd.func37, Tryd.ntmps37
  go_wp2_with fail
  refine bodyPost_ret (v := .agg (hv first).toArray) (by simp [results, Tryd.results37, go_sem, hv, first, un]) rfl ⟨rfl, ?_⟩
  go_grown

end Go.Proofs.YtfobjdkpdeiidaaDoor
