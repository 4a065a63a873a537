/-
  How a walk that returns true, from a world in which the package's variables hold the constants, proves a law's row and closes its card.
-/
import Derived.Test.YtfobjdkpdeiidaaDoorShaB
import Derived.Test.YtfobjdkpdeiidaaDoorCards
import Derived.Test.YtfobjdkpdeiidaaDoorTie
import Derived.LaidMore
import Derived.Stop.LaidErr
import Derived.Stop.Joined
import Derived.Lib.LaidTab
import Derived.SevenTiedAt
namespace Go.Proofs.YtfobjdkpdeiidaaDoor
open Go.ChangeShapes Go.WideShapes Go.ChangeAt Go.RowKit Go.Joins

def laidL : List (String × DataW Unit) := [("spigot/sha.firstWords", Rows.laid_spigot_sha_firstWords), ("spigot/sha.constants", Rows.laid_spigot_sha_constants)]
set_option maxRecDepth 100000 in
theorem laid_first : (Rows.laid_spigot_sha_firstWords : DataW Unit) = Lib.tabData .u32 (first.l.map un) := by kernel_rfl
set_option maxRecDepth 100000 in
theorem laid_const : (Rows.laid_spigot_sha_constants : DataW Unit) = Lib.tabData .u32 (shaK.map un) := by kernel_rfl
theorem getD_un (l : List UInt32) (i : Nat) (h : i < l.length) : (l.map un).getD i 0 = un (l.getD i 0) := by
  rw [List.getD_eq_getElem?_getD, List.getD_eq_getElem?_getD, List.getElem?_map, List.getElem?_eq_getElem h]
  rfl
set_option maxRecDepth 100000 in
theorem of_laid {W : World} (h : laidMetH Tryd.prog laidL W) : LaidS W := by
  rw [MakeChecks.laidMetH_plain _ _ _ (by kernel_rfl)] at h
  have h2 := h.tail
  unfold laidL at h
  rw [laid_first] at h
  rw [laid_const] at h2
  have t1 := Lib.tabIs_of_head (g := 0) (t := 59) (e := 58) (n := 8) (by kernel_rfl) (by kernel_rfl) Tryd.underlying59 Tryd.underlying58 (by kernel_rfl) (by kernel_rfl) h
  have t2 := Lib.tabIs_of_head (g := 1) (t := 83) (e := 58) (n := 64) (by kernel_rfl) (by kernel_rfl) Tryd.underlying83 Tryd.underlying58 (by kernel_rfl) (by kernel_rfl) h2
  refine ⟨fun t ht => ?_, fun t ht => ?_⟩
  · have := t2.cell (g := 1) (by kernel_rfl) t (by rw [List.length_map, shaK_len]; exact ht)
    rw [getD_un _ _ (by rw [shaK_len]; exact ht)] at this
    exact this
  · have := t1.cell (g := 0) (by kernel_rfl) t (by rw [List.length_map, W8.len]; exact ht)
    rw [getD_un _ _ (by rw [W8.len]; exact ht)] at this
    exact this
set_option maxRecDepth 100000 in
theorem door_met (os : Os) (args : Array Value) : laidMetH Tryd.prog laidL ((World.doorLaid Tryd.prog 400 os).forCall (fun _ _ => 0) ⟨#[], args, []⟩).memory :=
  laidMetH_of_parts3 (fuel := 8) (laidMet_of_run' 8 (by kernel_rfl) (by kernel_rfl)) (by kernel_rfl) (by kernel_rfl)

/-- What a law's walk has to show. -/
def LawWalkT (f : FuncId) (fn : Func) : Prop :=
  ∀ (H : Type) (enc : TypeId × Value → H) (W : World) (base : Nat) (args : Array Value) (ds : List (DataW H)) (ps : List MemPlace),
    (∀ (j : Nat) t v, fn.params[j]? = some t → args[j]? = some v → Value.okWide Tryd.prog W .any base t v) →
    DataW.TrodAll enc Tryd.prog W 0 (fun _ => true) true fn.params.toList args.toList ds ps →
    LaidS W →
    Calls Tryd.prog f args W fun e W' => e = .returned (.bool true) ∧ Below W.heap.size W W'

theorem lawT_lifted {os : Os} {H : Type} {enc : TypeId × Value → H} {f : FuncId} {fn : Func} {s : ChangeSpec} {tb : TypeId}
    (started : os.Started) (noInit : Tryd.prog.inits.idxOf? f = none) (hfn : Tryd.prog.funcs[f]? = some fn)
    (witness : ∃ (w : World) (tape : Tape) (i : Input), w.os = os ∧ (w.forCall tape i).Shaped Tryd.checked.prog ∧ i.vars = [] ∧ Input.okWide Tryd.checked.prog (w.forCall tape i) .any w.heap.size f i ∧
      ((s.pre enc Tryd.checked.prog fn [] false (w.forCall tape i).memory i.args ∧ laidMetH Tryd.prog laidL (w.forCall tape i).memory) ∧ sizedMet enc Tryd.checked.prog fn (OpenSpec.ofChange s) false (w.forCall tape i).memory i.args) ∧ ({} : Assume).holds Tryd.checked.prog (lone (Frame.enter Tryd.checked.prog f i.args .normal) [] (w.forCall tape i)))
    (hts : ∀ t ∈ fn.params.toList, Tryd.prog.readableRec t = true ∧ t < Tryd.prog.types.size) (hres : fn.resultTypes = #[tb]) (htb : Tryd.prog.underlying tb = some .bool)
    (hvars : s.vars = []) (hspec : ∀ ds : List (DataW H), ds.length = fn.params.toList.length → s.fn H ds = { results := [.lit (.bool true)], args := ds })
    (walk : LawWalkT f fn) :
    ReturnsInHanded {} Tryd.checked os f .any (fun w args => (s.pre enc Tryd.prog fn [] false w args ∧ laidMetH Tryd.prog laidL w) ∧ sizedMet enc Tryd.prog fn (OpenSpec.ofChange s) false w args)
      (s.post enc Tryd.prog fn false true false false) := by
  refine returnsInHanded_of_change_and (C := Tryd.checked) (X := fun w _ => laidMetH Tryd.prog laidL w) (fun _ _ _ hh h => h.of_heap hh) own started noInit hfn witness ?_
  intro W base args ds gs before hval hW _ _ hL _
  have hW' := hW
  obtain ⟨p, q, hA, hV, rfl, hfz, _⟩ := hW
  rw [hvars] at hV
  obtain ⟨rfl, rfl⟩ := trodVars_none hV
  have hlt : ∀ x ∈ p, x.block < W.heap.size := fun x hx => hW'.lt x (by simp [hx])
  refine (walk H enc W base args ds p hval hA (of_laid hL)).mono fun e W' ⟨he, hb⟩ => ?_
  have hlen := (trodAll_len _ _ _ _ hA).2
  refine ⟨.bool true, he, ds, [], p ++ [], [], p, [], hW', ?_, ?_, ?_, ?_, ?_⟩
  · rw [List.append_nil, hspec ds hlen, hres]
    exact trodAll_mk1 (shut_bool htb true)
  · rw [List.append_nil, hspec ds hlen]
    exact trodAll_stays laidOut _ _ _ _ hts hA (fun x hx => hb.same (hlt x hx)) (fun x hx => by simpa using hlt x hx)
  · rw [hvars, List.append_nil, hspec ds hlen]
    rfl
  · exact hb.frame _
  · intro h
    cases h

end Go.Proofs.YtfobjdkpdeiidaaDoor
