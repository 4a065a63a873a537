/-
  append of a row of buckets, nil or not, onto a row of the call's own.
-/
import Derived.Test.YtegbcagcfmijcaaRow04
import Derived.Laws.AppendOwnNone
import Derived.Laws.OwnMore
import Derived.BigFrame
namespace Go.Proofs.Ytegbcagcfmijcaa
open Go.RowKit

theorem flat_inv {bs : List Bk} {j : Nat} {u : Value} (h : (flat bs)[j]? = some u) : j / 6 < bs.length ∧ (bk bs (j / 6)).vals[j % 6]? = some u := by
  have hj : j < bs.length * 6 := by
    rcases Nat.lt_or_ge j (bs.length * 6) with q | q
    · exact q
    · rw [List.getElem?_eq_none (by rw [flat_len]; exact q)] at h
      cases h
  have hi : j / 6 < bs.length := by omega
  refine ⟨hi, ?_⟩
  obtain ⟨x, hx⟩ : ∃ x, (bk bs (j / 6)).vals[j % 6]? = some x := ⟨_, List.getElem?_eq_getElem (by simp [Bk.vals]; omega)⟩
  have := flat_at hi hx
  rw [show j / 6 * 6 + j % 6 = j by omega, h] at this
  rw [hx, this]
theorem flat_one {bs : List Bk} {u : Value} (h : u ∈ flat bs) : u.oneCell' = true := by
  unfold flat at h
  rw [List.mem_flatMap] at h
  obtain ⟨b, _, hu⟩ := h
  simp [Bk.vals] at hu
  rcases hu with rfl | rfl | rfl | rfl | rfl | rfl <;> rfl
theorem wp_append_row {P : Program} {w : World} {o : Oper} {a : Act} {K : Act → World → Prop} {Q : Exit → Act → World → Prop} (s x : Operand) (t : TypeId)
    (ho : o.op = .call { callee := .builtin .append, args := #[s, x], argTypes := #[t, t] })
    (base : Nat) (e : TypeId) (i : TypeInfo) (z : Value) (bytes : Nat) (ht : P.underlying t = some (.slice e)) (hi : P.info? e = some i) (hz : i.zero = some z)
    (hsize : i.size = 6) (hby : i.bytes = bytes) (hzs : z.cells.size = 6)
    (v : Value) (n : Nat) (l : List Value) (hs : a.eval s = v) (hown : w.ownsRow base e 6 v n l)
    (at0 : Option Addr) (cap m : Nat) (bs : List Bk) (hm : bs.length = m) (hx : a.eval x = .slice at0 m cap) (hin : Bks w at0 cap bs)
    (h63 : n + m ≤ maxLen) (hbytes : (n + m) * bytes ≤ 140737488355328) (hbase : base ≤ w.heap.size)
    (h : ∀ v' w', w'.ownsRow base e 6 v' (n + m) (l ++ flat bs) → w.grownBy w' v.ownBlock → K (a.put o.dst v') w') : o.wp P a w K Q := by
  subst hm
  cases at0 with
  | none =>
    have hc := hin.nil rfl
    subst hc
    have hl : bs = [] := List.eq_nil_of_length_eq_zero (by have := hin.room; omega)
    subst hl
    have hrun := run_append_owned_none (P := P) (w := w) base t o.type e i 6 ht hi v n l hown
    have hk := h v w (by simpa [flat] using hown) (World.grownBy.refl w _)
    unfold Oper.wp
    simp [execOp, ho, resolve, invoke, builtin, hs, hx, hrun, Result.andThen]
    exact hk
  | some ad =>
    refine wp_append_own w s x t ho base e i z 6 bytes ht hi hz hsize hby hzs (by omega) v n l hs hown ad bs.length cap (flat bs) hx (flat_len bs) (fun j u hu => ?_) (fun u hu => flat_one hu) h63 hbytes hbase (fun v' w' h1 h2 _ => h v' w' h1 h2)
    obtain ⟨hi, hv⟩ := flat_inv hu
    obtain ⟨b, off, e1, hc⟩ := hin.cells (by omega)
    cases e1
    have := hc _ hi _ _ hv
    rw [Go.WideShapes.add_plain]
    rw [Nat.add_assoc, show j / 6 * 6 + j % 6 = j by omega] at this
    exact this
theorem wpList_append_row {P : Program} {w : World} {ops : Array Oper} {rest : List Oper} {o : Oper} {a : Act} {Q : Exit → Act → World → Prop} (hw : Region.wanted o (yielded ops a.tmps) = true) (s x : Operand) (t : TypeId)
    (ho : o.op = .call { callee := .builtin .append, args := #[s, x], argTypes := #[t, t] })
    (base : Nat) (e : TypeId) (i : TypeInfo) (z : Value) (bytes : Nat) (ht : P.underlying t = some (.slice e)) (hi : P.info? e = some i) (hz : i.zero = some z)
    (hsize : i.size = 6) (hby : i.bytes = bytes) (hzs : z.cells.size = 6)
    (v : Value) (n : Nat) (l : List Value) (hs : a.eval s = v) (hown : w.ownsRow base e 6 v n l)
    (at0 : Option Addr) (cap m : Nat) (bs : List Bk) (hm : bs.length = m) (hx : a.eval x = .slice at0 m cap) (hin : Bks w at0 cap bs)
    (h63 : n + m ≤ maxLen) (hbytes : (n + m) * bytes ≤ 140737488355328) (hbase : base ≤ w.heap.size)
    (h : ∀ v' w', w'.ownsRow base e 6 v' (n + m) (l ++ flat bs) → w.grownBy w' v.ownBlock → wpList P ops Q rest (a.put o.dst v') w') : wpList P ops Q (o :: rest) a w :=
  BigFrame.wpList_want hw fun _ hK => wp_append_row s x t ho base e i z bytes ht hi hz hsize hby hzs v n l hs hown at0 cap m bs hm hx hin h63 hbytes hbase fun v' w' h1 h2 => hK _ _ (h v' w' h1 h2)
theorem IsB.openN {w : World} {v : Value} {bs : List Bk} {n : Nat} (h : IsB w v bs) (hl : bs.length = n) : ∃ at0 cap, v = .slice at0 n cap ∧ n ≤ cap ∧ cap ≤ 9223372036854775807 ∧ Hid (Bks w at0 cap bs) := by
  obtain ⟨at0, cap, rfl, hb⟩ := h
  subst hl
  exact ⟨at0, cap, rfl, hb.room, hb.most, Lib.hid hb⟩
theorem IsB.ofN {w : World} {at0 : Option Addr} {cap n : Nat} {bs : List Bk} (h : Bks w at0 cap bs) (hl : bs.length = n) : IsB w (.slice at0 n cap) bs := by
  subst hl
  exact ⟨at0, cap, rfl, h⟩
theorem Bks.atv {w : World} {at0 : Option Addr} {cap : Nat} {bs : List Bk} (h : Bks w at0 cap bs) {i : Nat} (hi : i < bs.length) {bu ra pe le pt a : Int} (eb : bk bs i = ⟨bu, ra, pe, le, pt, a⟩) :
    ∃ b off, at0 = some ⟨b, off, Option.none⟩ ∧ w.cell? ⟨b, off + i * 6, Option.none⟩ = some (.int .i64 bu) ∧ w.cell? ⟨b, off + i * 6 + 1, Option.none⟩ = some (.int .i64 ra) ∧ w.cell? ⟨b, off + i * 6 + 2, Option.none⟩ = some (.int .i64 pe) ∧
      w.cell? ⟨b, off + i * 6 + 3, Option.none⟩ = some (.int .i64 le) ∧ w.cell? ⟨b, off + i * 6 + 4, Option.none⟩ = some (.int .i64 pt) ∧ w.cell? ⟨b, off + i * 6 + 5, Option.none⟩ = some (.int .u64 a) := by
  obtain ⟨b, off, e, hc⟩ := h.cells (by omega)
  have hc := hc i hi
  rw [eb] at hc
  exact ⟨b, off, e, hc 0 _ rfl, hc 1 _ rfl, hc 2 _ rfl, hc 3 _ rfl, hc 4 _ rfl, hc 5 _ rfl⟩
/-- An empty row just made. -/
theorem own_empty {w : World} {B e : Nat} (hB : B ≤ w.heap.size) : (w.alloc (.cells #[] e)).ownsRow B e 6 (.slice (some ⟨w.heap.size, 0, none⟩) 0 0) 0 [] :=
  World.ownsRow_lit w #[] 0 hB (by unfold maxLen; omega) rfl
theorem Bks.alloc {w : World} {at0 : Option Addr} {cap : Nat} {bs : List Bk} (h : Bks w at0 cap bs) (x : Obj) : Bks (w.alloc x) at0 cap bs :=
  h.of_cells fun b o v hc => by rw [World.cell?_alloc_lt _ _ _ (lt_of_cell' hc)]; exact hc

end Go.Proofs.Ytegbcagcfmijcaa
