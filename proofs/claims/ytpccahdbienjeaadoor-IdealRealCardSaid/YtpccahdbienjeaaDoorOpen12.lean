/-
  The arguments of layer 12's statements, opened: tables, with a bound on their lengths out of the statement's own reach; a law whose walk is handed the reach.
-/
import Derived.Test.YtpccahdbienjeaaDoorIdMath
import Derived.Test.YtpccahdbienjeaaDoorGB1
import Derived.SizedLaws
namespace Go.Proofs.YtpccahdbienjeaaDoor
open Go.ChangeShapes Go.WideShapes Go.ChangeAt Go.RowKit Go.Joins

section
variable {H : Type} {enc : TypeId × Value → H} {W : World}
/-- A row that came in, as a cell of a struct. -/
theorem rows_of_trod {P : Program} {α : Type} {L : Lay α} {t e : TypeId} {fuel : Nat} {c : Value} {x : DataW H × List MemPlace}
    (ht : P.underlying t = some (.slice e)) (hc : P.cellsOf e = L.s)
    (heach : ∀ (fuel : Nat) (cs : List Value) (x : DataW H × List MemPlace), DataW.trod enc P W 0 (fun _ => true) true fuel e cs = some x → ∃ y, cs = L.f y)
    (h : DataW.trod enc P W 0 (fun _ => true) true fuel t [c] = some x) :
    ∃ xs : List α, IsR L W c xs ∧ (xs = [] ∨ ∃ el sp, x.1 = .slice el sp ∧ el.length = xs.length) := by
  rcases Go.Deep.open_slice ht h with ⟨hcs, _⟩ | ⟨ad, len, cap, m, n, D, Pl, hcs, hb, hl, hm, hmm, hx, hi⟩
  · obtain rfl : c = .slice none 0 0 := by simpa using hcs
    exact ⟨[], IsR.none, Or.inl rfl⟩
  · obtain rfl : c = .slice (some ad) len cap := by simpa using hcs
    simp only [if_true] at hmm
    subst hmm
    have each : ∀ i, i < len → ∃ y : α, ∀ j v, (L.f y)[j]? = some v → W.cell? (ad.add (i * L.s + j)) = some v := by
      intro i hil
      obtain ⟨cs', hcs', ht⟩ := hi i (by omega)
      rw [hc] at hcs'
      obtain ⟨_, hlen, hat⟩ := World.cells?_some hcs'
      obtain ⟨y, rfl⟩ := heach _ _ _ ht
      refine ⟨y, fun j v hv => ?_⟩
      rw [← Go.Deep.add_add, hat j (Lay.lt hv)]
      exact hv
    rcases Nat.eq_zero_or_pos len with q | q
    · subst q
      exact ⟨[], ⟨some ad, _, rfl, by simp, by unfold maxLen at hm; omega, fun q => absurd q (by simp), fun q => by cases q⟩, Or.inl rfl⟩
    obtain ⟨b, off, spot⟩ := ad
    have hspot : spot = none := by
      obtain ⟨b0, hb0⟩ := each 0 q
      obtain ⟨u, hu⟩ : ∃ u, (L.f b0)[0]? = some u := ⟨_, List.getElem?_eq_getElem (by rw [L.len]; exact L.pos)⟩
      simpa [Addr.add] using World.cell?_spot (hb0 0 _ hu)
    subst hspot
    obtain ⟨y0, _⟩ := each 0 q
    have hex : ∃ f : Nat → α, ∀ i, i < len → ∀ j v, (L.f (f i))[j]? = some v → W.cell? (Addr.add ⟨b, off, none⟩ (i * L.s + j)) = some v :=
      ⟨fun i => if h : i < len then Classical.choose (each i h) else y0, fun i h => by dsimp only; rw [dif_pos h]; exact Classical.choose_spec (each i h)⟩
    obtain ⟨f, hfi⟩ := hex
    have hlen : ((List.range len).map f).length = len := by simp
    refine ⟨(List.range len).map f, ⟨some ⟨b, off, none⟩, _, by rw [hlen], by omega, by unfold maxLen at hm; omega, fun _ => ⟨b, off, rfl, fun i x hi j v hv => ?_⟩, fun q => by cases q⟩, Or.inr ⟨_, _, by rw [hx], by rw [hlen, List.length_map, List.length_range]⟩⟩
    have hil : i < len := by rw [← hlen]; exact (List.getElem?_eq_some_iff.1 hi).1
    obtain rfl : f i = x := by
      rw [List.getElem?_map, List.getElem?_range hil] at hi
      simpa using hi
    have := hfi i hil j v hv
    rw [Go.WideShapes.add_plain] at this
    rw [Nat.add_assoc]
    exact this
theorem kinK12 : kindsT Tryd.prog 5 31 = some kindsK := by kernel_rfl
set_option maxRecDepth 100000 in
theorem open_ideal {r : Reach} {b0 : Nat} {v : Value} {d : DataW H} {p : List MemPlace} (hw : Value.okWide Tryd.prog W r b0 25 v) (h : DataW.Trod enc Tryd.prog W 0 (fun _ => true) true 25 v d p)
    (hz : ∀ n ∈ d.weights Tryd.prog 25, n ≤ reachBytes) : ∃ (ts : List Tk) (cs : List Cmd), IsD W v ts cs ∧ ts.length + cs.length ≤ 1000000000000000 := by
  obtain ⟨cs, rfl, hsz⟩ := okWide_struct Tryd.underlying25 hw
  obtain ⟨fuel, hf⟩ := h
  have c2 : Tryd.prog.cellsOf 25 = 2 := by kernel_rfl
  have cT : Tryd.prog.cellsOf 22 = 1 := by kernel_rfl
  have cC : Tryd.prog.cellsOf 23 = 1 := by kernel_rfl
  have bT : Tryd.prog.bytesOf 31 = 56 := by kernel_rfl
  have bC : Tryd.prog.bytesOf 39 = 136 := by kernel_rfl
  obtain ⟨y0, y1, n, hd, _, h0, h1⟩ := trod_struct2 Tryd.underlying25 (cs := cs.toList) (by simpa [Value.cells] using hf)
  simp only [cT, cC] at h0 h1
  rw [c2] at hsz
  have hl : cs.toList.length = 2 := by simpa using hsz
  obtain ⟨l⟩ := cs
  simp only [] at h0 h1 hl
  match l, hl with
  | [a, b], _ =>
    simp at h0 h1
    obtain ⟨ts, hT, qT⟩ := rows_of_trod (L := LT) Tryd.underlying22 (by kernel_rfl) (fun fuel cs x hx => by
      obtain ⟨k, g, rfl, hg, hb⟩ := fit_tok_inv (kinds_open 5 _ _ fuel cs x kinK12 hx)
      exact ⟨⟨k, g, hg, hb⟩, rfl⟩) h0
    obtain ⟨us, hC, qC⟩ := rows_of_trod (L := LC) Tryd.underlying23 (by kernel_rfl) (fun fuel cs x hx => by
      obtain ⟨c, rfl⟩ := fit_cmd_inv (kinds_open 5 _ _ fuel cs x kinC hx)
      exact ⟨c, rfl⟩) h1
    refine ⟨ts, us, ⟨a, b, rfl, hT, hC⟩, ?_⟩
    have hde : d = .agg [y0.1, y1.1] := congrArg Prod.fst hd
    subst hde
    have hr : reachBytes < 2 ^ 47 := reachBytes_lt
    have h2 : (2 : Nat) ^ 47 = 140737488355328 := by decide
    have w0 : ts.length ≤ reachBytes := by
      rcases qT with rfl | ⟨el, sp, e, hle⟩
      · exact Nat.zero_le _
      · have := hz ((el.length + sp.length) * 56) (by
          simp only [DataW.weights, Tryd.underlying25]
          refine DataW.weights_mem_each (j := 0) rfl rfl _ ?_
          rw [e]
          simp [DataW.weights, Tryd.underlying22, bT])
        rw [hle] at this
        omega
    have w1 : us.length ≤ reachBytes := by
      rcases qC with rfl | ⟨el, sp, e, hle⟩
      · exact Nat.zero_le _
      · have := hz ((el.length + sp.length) * 136) (by
          simp only [DataW.weights, Tryd.underlying25]
          refine DataW.weights_mem_each (j := 1) rfl rfl _ ?_
          rw [e]
          simp [DataW.weights, Tryd.underlying23, bC])
        rw [hle] at this
        omega
    omega
end

end Go.Proofs.YtpccahdbienjeaaDoor
