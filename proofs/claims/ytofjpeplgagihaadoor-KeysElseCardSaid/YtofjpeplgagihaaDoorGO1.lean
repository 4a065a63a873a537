/-
  How a walk that returns true, from a world in which the package's variables hold the constants, proves a law's row and closes its card.
  The arguments of the statements of layer 5, opened: bytes, words, a hash, a number.
  The arguments of the statements of layer 6, opened: digests.
  The arguments of the statements of layer 8, opened: numbers.
-/
import Derived.Test.YtofjpeplgagihaaDoorGS1
import Derived.Test.YtofjpeplgagihaaDoorCards
import Derived.Test.YtofjpeplgagihaaDoorTie
import Derived.Test.YtofjpeplgagihaaDoorGS2
import Derived.Test.YtofjpeplgagihaaDoorGB1
import Derived.Test.YtofjpeplgagihaaDoorGT1
import Derived.LaidMore
import Derived.Stop.LaidErr
import Derived.Stop.Joined
import Derived.Lib.LaidTab
import Derived.SevenTiedAt
import Derived.Deep.Strs

namespace Go.Proofs.YtofjpeplgagihaaDoor
open Go.ChangeShapes Go.WideShapes Go.ChangeAt Go.RowKit Go.Joins

def laidL : List (String × DataW Unit) := [("spigot/sha.firstWords", Rows.laid_spigot_sha_firstWords), ("spigot/sha.constants", Rows.laid_spigot_sha_constants)]
set_option maxRecDepth 100000 in
theorem laid_first : (Rows.laid_spigot_sha_firstWords : DataW Unit) = Lib.tabData .u32 (first.l.map un) := by kernel_rfl
set_option maxRecDepth 100000 in
theorem laid_const : (Rows.laid_spigot_sha_constants : DataW Unit) = Lib.tabData .u32 (shaK.map un) := by kernel_rfl
theorem getD_un (l : List UInt32) (i : Nat) (h : i < l.length) : (l.map un).getD i 0 = un (l.getD i 0) := by
  rw [List.getD_eq_getElem?_getD, List.getD_eq_getElem?_getD, List.getElem?_map, List.getElem?_eq_getElem h]
  rfl
set_option maxRecDepth 100000 in
theorem of_laid {W : World} (h : laidMetH Tryd.prog laidL W) : LaidS W := by
  rw [MakeChecks.laidMetH_plain _ _ _ (by kernel_rfl)] at h
  have h2 := h.tail
  unfold laidL at h
  rw [laid_first] at h
  rw [laid_const] at h2
  have t1 := Lib.tabIs_of_head (g := 0) (t := 117) (e := 27) (n := 8) (by kernel_rfl) (by kernel_rfl) Tryd.underlying117 Tryd.underlying27 (by kernel_rfl) (by kernel_rfl) h
  have t2 := Lib.tabIs_of_head (g := 1) (t := 149) (e := 27) (n := 64) (by kernel_rfl) (by kernel_rfl) Tryd.underlying149 Tryd.underlying27 (by kernel_rfl) (by kernel_rfl) h2
  refine ⟨fun t ht => ?_, fun t ht => ?_⟩
  · have := t2.cell (g := 1) (by kernel_rfl) t (by rw [List.length_map, shaK_len]; exact ht)
    rw [getD_un _ _ (by rw [shaK_len]; exact ht)] at this
    exact this
  · have := t1.cell (g := 0) (by kernel_rfl) t (by rw [List.length_map, W8.len]; exact ht)
    rw [getD_un _ _ (by rw [W8.len]; exact ht)] at this
    exact this
set_option maxRecDepth 100000 in
theorem door_met (os : Os) (args : Array Value) : laidMetH Tryd.prog laidL ((World.doorLaid Tryd.prog 400 os).forCall (fun _ _ => 0) ⟨#[], args, []⟩).memory :=
  laidMetH_of_parts3 (fuel := 8) (laidMet_of_run' 8 (by kernel_rfl) (by kernel_rfl)) (by kernel_rfl) (by kernel_rfl)

/-- What a law's walk has to show. -/
def LawWalkT (f : FuncId) (fn : Func) : Prop :=
  ∀ (H : Type) (enc : TypeId × Value → H) (W : World) (base : Nat) (args : Array Value) (ds : List (DataW H)) (ps : List MemPlace),
    (∀ (j : Nat) t v, fn.params[j]? = some t → args[j]? = some v → Value.okWide Tryd.prog W .any base t v) →
    DataW.TrodAll enc Tryd.prog W 0 (fun _ => true) true fn.params.toList args.toList ds ps →
    LaidS W →
    Calls Tryd.prog f args W fun e W' => e = .returned (.bool true) ∧ Below W.heap.size W W'

set_option maxRecDepth 100000 in
theorem lawT_lifted {os : Os} {H : Type} {enc : TypeId × Value → H} {f : FuncId} {fn : Func} {s : ChangeSpec} {tb : TypeId}
    (started : os.Started) (noInit : Tryd.prog.inits.idxOf? f = none) (hfn : Tryd.prog.funcs[f]? = some fn)
    (witness : ∃ (w : World) (tape : Tape) (i : Input), w.os = os ∧ (w.forCall tape i).Shaped Tryd.checked.prog ∧ i.vars = [] ∧ Input.okWide Tryd.checked.prog (w.forCall tape i) .any w.heap.size f i ∧
      ((s.pre enc Tryd.checked.prog fn [] false (w.forCall tape i).memory i.args ∧ laidMetH Tryd.prog laidL (w.forCall tape i).memory) ∧ sizedMet enc Tryd.checked.prog fn (OpenSpec.ofChange s) false (w.forCall tape i).memory i.args) ∧ ({} : Assume).holds Tryd.checked.prog (lone (Frame.enter Tryd.checked.prog f i.args .normal) [] (w.forCall tape i)))
    (hts : ∀ t ∈ fn.params.toList, Tryd.prog.readableRec t = true ∧ t < Tryd.prog.types.size) (hres : fn.resultTypes = #[tb]) (htb : Tryd.prog.underlying tb = some .bool)
    (hvars : s.vars = []) (hspec : ∀ ds : List (DataW H), ds.length = fn.params.toList.length → s.fn H ds = { results := [.lit (.bool true)], args := ds })
    (walk : LawWalkT f fn) :
    ReturnsInHanded {} Tryd.checked os f .any (fun w args => (s.pre enc Tryd.prog fn [] false w args ∧ laidMetH Tryd.prog laidL w) ∧ sizedMet enc Tryd.prog fn (OpenSpec.ofChange s) false w args)
      (s.post enc Tryd.prog fn false true false false) := by
  refine returnsInHanded_of_change_and (C := Tryd.checked) (X := fun w _ => laidMetH Tryd.prog laidL w) (fun _ _ _ hh h => h.of_heap hh) own started noInit hfn witness ?_
  intro W base args ds gs before hval hW _ _ hL _
  have hW' := hW
  obtain ⟨p, q, hA, hV, rfl, hfz, _⟩ := hW
  rw [hvars] at hV
  obtain ⟨rfl, rfl⟩ := trodVars_none hV
  have hlt : ∀ x ∈ p, x.block < W.heap.size := fun x hx => hW'.lt x (by simp [hx])
  refine (walk H enc W base args ds p hval hA (of_laid hL)).mono fun e W' ⟨he, hb⟩ => ?_
  have hlen := (trodAll_len _ _ _ _ hA).2
  refine ⟨.bool true, he, ds, [], p ++ [], [], p, [], hW', ?_, ?_, ?_, ?_, ?_⟩
  · rw [List.append_nil, hspec ds hlen, hres]
    exact trodAll_mk1 (shut_bool htb true)
  · rw [List.append_nil, hspec ds hlen]
    exact trodAll_stays laidOut _ _ _ _ hts hA (fun x hx => hb.same (hlt x hx)) (fun x hx => by simpa using hlt x hx)
  · rw [hvars, List.append_nil, hspec ds hlen]
    rfl
  · exact hb.frame _
  · intro h
    cases h

end Go.Proofs.YtofjpeplgagihaaDoor

namespace Go.Proofs.YtofjpeplgagihaaDoor
open Go.ChangeShapes Go.WideShapes Go.ChangeAt Go.RowKit Go.Joins

section
variable {H : Type} {enc : TypeId × Value → H} {W : World} {r : Reach} {b0 base : Nat} {sp : Nat → Bool} {held : Bool} {v : Value} {d : DataW H} {p : List MemPlace}
theorem isl_of_trod {P : Program} {t e : TypeId} {k : IntKind} {fuel : Nat} {c : Value} {x : DataW H × List MemPlace} (ht : P.underlying t = some (.slice e)) (he : P.underlying e = some (.int k)) (hc : P.cellsOf e = 1)
    (h : DataW.trod enc P W 0 (fun _ => true) true fuel t [c] = some x) : ∃ xs : List Int, IsL W k c xs ∧ ∀ x ∈ xs, (Lit.int k x).wf = true := by
  rcases open_ints ht he hc h with ⟨hcs, _⟩ | ⟨ad, len, cap, zs, hcs, _, hl, hm, hz, _, hcell, hwf⟩
  · obtain rfl : c = .slice none 0 0 := by simpa using hcs
    exact ⟨[], IsL.none, fun x hx => by simp at hx⟩
  · obtain rfl : c = .slice (some ad) len cap := by simpa using hcs
    simp only [if_true] at hz
    have hlen : (zs.take len).length = len := by rw [List.length_take]; omega
    refine ⟨zs.take len, ⟨some ad, cap, by rw [hlen], ⟨by omega, by unfold maxLen at hm; omega, fun h0 => ?_⟩, fun h => by cases h⟩, fun x hx => hwf x (List.mem_of_mem_take hx)⟩
    obtain ⟨b, off, spot⟩ := ad
    have hspot : spot = none := by simpa [Addr.add] using World.cell?_spot (hcell 0 (by omega))
    subst hspot
    refine ⟨b, off, rfl, fun i hi => ?_⟩
    have := hcell i (by omega)
    rw [nth_take (by omega), ← Go.WideShapes.add_plain]
    exact this
theorem byte_wf {x : Int} (h : (Lit.int .u8 x).wf = true) : 0 ≤ x ∧ x < 256 := by
  have h1 : IntKind.u8.min ≤ x ∧ x ≤ IntKind.u8.max := by simpa [Lit.wf] using h
  have e1 : IntKind.u8.min = 0 := rfl
  have e2 : IntKind.u8.max = 255 := rfl
  omega
theorem word_wf {x : Int} (h : (Lit.int .u32 x).wf = true) : ∃ u : UInt32, x = un u := by
  have h1 : IntKind.u32.min ≤ x ∧ x ≤ IntKind.u32.max := by simpa [Lit.wf] using h
  have e1 : IntKind.u32.min = 0 := rfl
  have e2 : IntKind.u32.max = 4294967295 := rfl
  refine ⟨UInt32.ofNat x.toNat, ?_⟩
  unfold un
  rw [UInt32.toNat_ofNat']
  omega
set_option maxRecDepth 100000 in
theorem open_bytes (hv : Value.okWide Tryd.prog W r b0 62 v) (h : DataW.Trod enc Tryd.prog W 0 (fun _ => true) true 62 v d p) : ∃ (at0 : Option Addr) (cap : Nat) (xs : List Int), v = .slice at0 xs.length cap ∧ IsL W .u8 (.slice at0 xs.length cap) xs ∧ bytesL xs := by
  obtain ⟨a, len, cap, rfl⟩ := okWide_slice Tryd.underlying62 hv
  obtain ⟨fuel, hf⟩ := h
  obtain ⟨xs, hi, hw⟩ := isl_of_trod Tryd.underlying62 Tryd.underlying5 (by kernel_rfl) (c := .slice a len cap) hf
  obtain ⟨a', c', e, h1, h0⟩ := id hi
  injection e with e1 e2 e3
  subst e1 e2 e3
  exact ⟨_, _, xs, rfl, hi, bytesL.of_all fun x hx => byte_wf (hw x hx)⟩
theorem list8 {α : Type} {l : List α} (h : l.length = 8) : ∃ a b c d e f g z, l = [a, b, c, d, e, f, g, z] := by
  match l, h with
  | [a, b, c, d, e, f, g, z], _ => exact ⟨a, b, c, d, e, f, g, z, rfl⟩
set_option maxRecDepth 100000 in
theorem words_of_trod {fuel : Nat} {cs : List Value} {x : DataW H × List MemPlace} (h : DataW.trod enc Tryd.prog W base sp held fuel 117 cs = some x) : ∃ T : W8, cs = hv T := by
  obtain ⟨xs, m, _, _, hl, hx, hi⟩ := DataW.trod_array Tryd.underlying117 h
  have c8 : Tryd.prog.cellsOf 117 = 8 := by kernel_rfl
  have c1 : Tryd.prog.cellsOf 27 = 1 := by kernel_rfl
  rw [c8] at hl
  rw [c1] at hi
  have each : ∀ i, i < 8 → ∃ u : UInt32, cs[i]? = some (.int .u32 (un u)) := fun i h8 => by
    have h1 := hi i h8
    have h2 : i < xs.length := by omega
    rw [List.getElem?_eq_getElem h2] at h1
    obtain ⟨n, e, _, hw⟩ := DataW.trod_int Tryd.underlying27 h1
    obtain ⟨u, rfl⟩ := word_wf hw
    refine ⟨u, ?_⟩
    have h3 := congrArg (fun l => l[0]?) e
    simpa [List.getElem?_take, List.getElem?_drop] using h3
  obtain ⟨a, b, c, d, e, f, g, z, rfl⟩ := list8 hl
  obtain ⟨u0, h0⟩ := each 0 (by omega)
  obtain ⟨u1, h1⟩ := each 1 (by omega)
  obtain ⟨u2, h2⟩ := each 2 (by omega)
  obtain ⟨u3, h3⟩ := each 3 (by omega)
  obtain ⟨u4, h4⟩ := each 4 (by omega)
  obtain ⟨u5, h5⟩ := each 5 (by omega)
  obtain ⟨u6, h6⟩ := each 6 (by omega)
  obtain ⟨u7, h7⟩ := each 7 (by omega)
  simp at h0 h1 h2 h3 h4 h5 h6 h7
  subst h0 h1 h2 h3 h4 h5 h6 h7
  exact ⟨⟨u0, u1, u2, u3, u4, u5, u6, u7⟩, rfl⟩
set_option maxRecDepth 100000 in
theorem open_words (hw : Value.okWide Tryd.prog W r b0 117 v) (h : DataW.Trod enc Tryd.prog W base sp held 117 v d p) : ∃ T : W8, v = .agg (hv T).toArray := by
  simp only [Value.okWide, Tryd.underlying117] at hw
  obtain ⟨cs, rfl, _⟩ := hw
  obtain ⟨fuel, hf⟩ := h
  obtain ⟨T, hT⟩ := words_of_trod (by simpa [Value.cells] using hf)
  refine ⟨T, ?_⟩
  rw [← hT]
set_option maxRecDepth 100000 in
theorem open_hash (hw : Value.okWide Tryd.prog W r b0 134 v) (h : DataW.Trod enc Tryd.prog W 0 (fun _ => true) true 134 v d p) :
    ∃ (T : W8) (at0 : Option Addr) (cap : Nat) (rs : List Int) (n : Int), v = .agg (hashV T (.slice at0 rs.length cap) n).toArray ∧ IsL W .u8 (.slice at0 rs.length cap) rs ∧ bytesL rs ∧ -9223372036854775808 ≤ n ∧ n ≤ 9223372036854775807 := by
  obtain ⟨cs, rfl, hsz⟩ := okWide_struct Tryd.underlying134 hw
  obtain ⟨fuel, hf⟩ := h
  have c10 : Tryd.prog.cellsOf 134 = 10 := by kernel_rfl
  have c8 : Tryd.prog.cellsOf 117 = 8 := by kernel_rfl
  have c1 : Tryd.prog.cellsOf 62 = 1 := by kernel_rfl
  have ci : Tryd.prog.cellsOf 3 = 1 := by kernel_rfl
  obtain ⟨y0, y1, y2, n, _, _, h0, h1, h2⟩ := Go.Deep.trod_struct3 Tryd.underlying134 (cs := cs.toList) (by simpa [Value.cells] using hf)
  simp only [c8, c1, ci] at h0 h1 h2
  rw [c10] at hsz
  obtain ⟨T, hT⟩ := words_of_trod h0
  obtain ⟨m, e2, _, w2⟩ := DataW.trod_int Tryd.underlying3 h2
  have hl : cs.toList.length = 10 := by simpa using hsz
  obtain ⟨l⟩ := cs
  simp only [] at hT h1 e2 hl
  match l, hl with
  | [a, b, c, d, e, f, g, z, s, t], _ =>
    simp [hv] at hT h1 e2
    obtain ⟨rfl, rfl, rfl, rfl, rfl, rfl, rfl, rfl⟩ := hT
    subst e2
    obtain ⟨xs, hi, hx⟩ := isl_of_trod Tryd.underlying62 Tryd.underlying5 (by kernel_rfl) h1
    obtain ⟨a', c', rfl, hi2, h02⟩ := hi
    have := bounds_i64 w2
    exact ⟨T, a', c', xs, m, rfl, ⟨a', c', rfl, hi2, h02⟩, bytesL.of_all fun x hx' => byte_wf (hx x hx'), by omega, by omega⟩
set_option maxRecDepth 100000 in
theorem open_n (hv : Value.okWide Tryd.prog W r b0 3 v) (h : DataW.Trod enc Tryd.prog W base sp held 3 v d p) : ∃ x : Int, v = .int .i64 x ∧ -9223372036854775808 ≤ x ∧ x ≤ 9223372036854775807 := by
  obtain ⟨a, rfl, _, _, wa⟩ := open_int Tryd.underlying3 hv h
  have := bounds_i64 wa
  exact ⟨a, rfl, by omega, by omega⟩
end

end Go.Proofs.YtofjpeplgagihaaDoor

namespace Go.Proofs.YtofjpeplgagihaaDoor
open Go.ChangeShapes Go.WideShapes Go.ChangeAt Go.RowKit Go.Joins

theorem ints_of_each {k : IntKind} {Q : Int → Prop} : ∀ (cs : List Value), (∀ i, i < cs.length → ∃ x, cs[i]? = some (.int k x) ∧ Q x) → ∃ D : List Int, cs = D.map (Value.int k) ∧ D.length = cs.length ∧ ∀ x ∈ D, Q x
  | [], _ => ⟨[], rfl, rfl, by simp⟩
  | c :: cs, h => by
    obtain ⟨x, hx, hq⟩ := h 0 (by simp)
    obtain ⟨D, rfl, _, hD⟩ := ints_of_each cs fun i hi => by
      have := h (i + 1) (by simpa using hi)
      simpa using this
    simp at hx
    subst hx
    exact ⟨x :: D, rfl, by simp, fun y hy => by
      rcases List.mem_cons.1 hy with rfl | hy
      · exact hq
      · exact hD y hy⟩
section
variable {H : Type} {enc : TypeId × Value → H} {W : World} {r : Reach} {b0 base : Nat} {sp : Nat → Bool} {held : Bool} {v : Value} {d : DataW H} {p : List MemPlace}
set_option maxRecDepth 100000 in
theorem digest_of_trod {fuel : Nat} {cs : List Value} {x : DataW H × List MemPlace} (h : DataW.trod enc Tryd.prog W base sp held fuel 23 cs = some x) :
    ∃ D : List Int, cs = D.map (Value.int .u8) ∧ D.length = 32 ∧ ∀ x ∈ D, 0 ≤ x ∧ x < 256 := by
  obtain ⟨xs, m, _, _, hl, hx, hi⟩ := DataW.trod_array Tryd.underlying23 h
  have c32 : Tryd.prog.cellsOf 23 = 32 := by kernel_rfl
  have c1 : Tryd.prog.cellsOf 5 = 1 := by kernel_rfl
  rw [c32] at hl
  rw [c1] at hi
  obtain ⟨D, hD, hl2, hq⟩ := ints_of_each (k := .u8) (Q := fun x => 0 ≤ x ∧ x < 256) cs fun i h8 => by
    have h1 := hi i (by omega)
    have h2 : i < xs.length := by omega
    rw [List.getElem?_eq_getElem h2] at h1
    obtain ⟨n, e, _, hw⟩ := DataW.trod_int Tryd.underlying5 h1
    refine ⟨n, ?_, ?_⟩
    · have h3 := congrArg (fun l => l[0]?) e
      simpa [List.getElem?_take, List.getElem?_drop] using h3
    · have h1 : IntKind.u8.min ≤ n ∧ n ≤ IntKind.u8.max := by simpa [Lit.wf] using hw
      have e1 : IntKind.u8.min = 0 := rfl
      have e2 : IntKind.u8.max = 255 := rfl
      omega
  exact ⟨D, hD, by omega, hq⟩
set_option maxRecDepth 100000 in
theorem open_digest (hw : Value.okWide Tryd.prog W r b0 23 v) (h : DataW.Trod enc Tryd.prog W base sp held 23 v d p) :
    ∃ D : List Int, v = .agg (D.map (Value.int .u8)).toArray ∧ D.length = 32 ∧ ∀ x ∈ D, 0 ≤ x ∧ x < 256 := by
  simp only [Value.okWide, Tryd.underlying23] at hw
  obtain ⟨cs, rfl, _⟩ := hw
  obtain ⟨fuel, hf⟩ := h
  obtain ⟨D, hD, hl, hq⟩ := digest_of_trod (by simpa [Value.cells] using hf)
  refine ⟨D, ?_, hl, hq⟩
  rw [← hD]
end

end Go.Proofs.YtofjpeplgagihaaDoor

namespace Go.Proofs.YtofjpeplgagihaaDoor
open Go.ChangeShapes Go.WideShapes Go.ChangeAt Go.RowKit Go.Joins

set_option maxRecDepth 100000 in
theorem open_q8 {H : Type} {enc : TypeId × Value → H} {W : World} {r : Reach} {b0 base : Nat} {sp : Nat → Bool} {held : Bool} {v : Value} {d : DataW H} {p : List MemPlace} (hw : Value.okWide Tryd.prog W r b0 28 v) (h : DataW.Trod enc Tryd.prog W base sp held 28 v d p) : ∃ x : Int, v = .int .u64 x ∧ 0 ≤ x ∧ x ≤ 18446744073709551615 := by
  obtain ⟨a, rfl, _, _, wa⟩ := open_int Tryd.underlying28 hw h
  exact ⟨a, rfl, bounds_u64 wa⟩
theorem byts_of {D : List Int} (h : ∀ x ∈ D, 0 ≤ x ∧ x < 256) : Byts D := fun x hx => by have := h x hx; omega

end Go.Proofs.YtofjpeplgagihaaDoor
