/-
  Package field, walked: Read, First; bytes.Clone.
-/
import Derived.Test.YtlbbedknldmcpaaFldG
namespace Go.Proofs.Ytlbbedknldmcpaa
open Go.RowKit

def GivesRE (fs : List Fd) (c : Int) (w : World) (e : Ending) (w' : World) : Prop :=
  ∃ v, e = .returned (.tuple #[v, .int .i64 c]) ∧ w'.ownsRow w.heap.size 44 34 v fs.length (flatR LF fs) ∧ Below w.heap.size w w'
def GivesOwn (bs : List Int) (w : World) (e : Ending) (w' : World) : Prop := ∃ v, e = .returned v ∧ w'.ownsRow w.heap.size 5 1 v bs.length (bs.map (Value.int .u8)) ∧ Below w.heap.size w w'
def GivesRO (fs : List Fd) (bs : List Int) (c : Int) (w : World) (e : Ending) (w' : World) : Prop :=
  ∃ v u, e = .returned (.tuple #[v, u, .int .i64 c]) ∧ w'.ownsRow w.heap.size 44 34 v fs.length (flatR LF fs) ∧ w'.ownsRow w.heap.size 5 1 u bs.length (bs.map (Value.int .u8)) ∧ Below w.heap.size w w'
theorem ownU_nil {w : World} {B : Nat} : w.ownsRow B 5 1 (.slice none 0 0) ([] : List Int).length (([] : List Int).map (Value.int .u8)) := ⟨rfl, Or.inl ⟨rfl, rfl⟩⟩
theorem nil_eq (W : World) : (binOp .eql 28 (.slice none 0 0) (.slice none 0 0)).run Try.prog W = .ok (.bool true) W := by kernel_rfl
theorem some_eq (ad : Addr) (n c : Nat) (W : World) : (binOp .eql 28 (.slice (some ad) n c) (.slice none 0 0)).run Try.prog W = .ok (.bool false) W := by kernel_rfl
theorem ret2v {v : Value} {c d : Int} (h : c = d) : Ending.returned (.tuple #[v, .int .i64 c]) = .returned (.tuple #[v, .int .i64 d]) := by rw [h]

theorem readRow_is {v u : Value} {ks bs : List Int} (w : World) (h1 : IsL w .u8 v ks) (h2 : IsL w .u8 u bs) (hkb : ∀ k ∈ ks, 0 ≤ k ∧ k ≤ 255) (hbb : Byts bs) : Calls Try.prog 16 #[v, u] w (GivesRL (firF ks bs) (firR ks bs) (firE ks bs) w) := by
  by_cases h : kinE ks = 0
  · exact readRow_ok w h1 h2 hkb hbb h
  · exact readRow_bad w h1 h
theorem firE_no {ks bs : List Int} (h : firE ks bs ≠ 0) : firF ks bs = [] ∧ firR ks bs = [] := by
  rcases kinE_cases ks with q | q | q
  · cases hr : rd ks bs with
    | none => exact (fir_none q hr).2
    | some p => exact absurd (by unfold firE; rw [if_pos q, hr]) h
  · exact (fir_bad q (by decide)).2
  · exact (fir_bad q (by decide)).2

set_option maxRecDepth 100000 in
set_option maxHeartbeats 1600000 in
theorem read_is {v u : Value} {ks bs : List Int} (w : World) (h1 : IsL w .u8 v ks) (h2 : IsL w .u8 u bs) (hkb : ∀ k ∈ ks, 0 ≤ k ∧ k ≤ 255) (hbb : Byts bs) : Calls Try.prog 10 #[v, u] w (GivesRE (reaF ks bs) (reaE ks bs) w) := by
  have C := readRow_is w h1 h2 hkb hbb
  have hk := Lib.hid (firE_no (ks := ks) (bs := bs))
  have hE : reaE ks bs = if firE ks bs = 0 then (if firR ks bs = [] then 0 else 12) else firE ks bs := rfl
  have hF : reaF ks bs = if reaE ks bs = 0 then firF ks bs else [] := rfl
  obtain ⟨fs, hfs⟩ : ∃ fs, firF ks bs = fs := ⟨_, rfl⟩
  obtain ⟨rs, hrs⟩ : ∃ rs, firR ks bs = rs := ⟨_, rfl⟩
  obtain ⟨c, hc⟩ : ∃ c, firE ks bs = c := ⟨_, rfl⟩
  rw [hfs, hrs, hc] at C
  rw [hrs, hc] at hE
  rw [hfs] at hF
  clear h1 h2 hk
  by_cases h0 : c = 0
  · subst h0
    rw [if_pos rfl] at hE
    by_cases h1 : rs = []
    · rw [if_pos h1] at hE
      rw [hE, if_pos rfl] at hF
      rw [hE, hF]
      subst h1
      clear hE hF hfs hrs hc
      go_enter Try.func10, Try.ntmps10
      go_wp2_with fail
      refine C.mono ?_
      rintro e w1 ⟨v1, u1, rfl, ho, hl, hb⟩
      obtain ⟨a1, c1, rfl, _, _⟩ := hl
      go_wp2_with fail
      go_returns
      exact ⟨_, rfl, ho, hb⟩
    · rw [if_neg h1] at hE
      rw [hE, if_neg (by decide)] at hF
      rw [hE, hF]
      have hp : 0 < rs.length := List.length_pos_iff.2 h1
      have d1 : decide (0 < rs.length) = true := decide_eq_true hp
      clear hE hF hfs hrs hc h1 hp
      go_enter Try.func10, Try.ntmps10
      go_wp2_with fail
      refine C.mono ?_
      rintro e w1 ⟨v1, u1, rfl, ho, hl, hb⟩
      obtain ⟨a1, c1, rfl, _, _⟩ := hl
      go_wp2_with fail
      go_returns
      exact ⟨_, rfl, ownF_nil, hb⟩
  · rw [if_neg h0] at hE
    rw [hE, if_neg h0] at hF
    rw [hE, hF]
    have d1 : (c != 0) = true := by simpa using h0
    clear hE hF hfs hrs hc h0
    go_enter Try.func10, Try.ntmps10
    go_wp2_with fail
    refine C.mono ?_
    rintro e w1 ⟨v1, u1, rfl, ho, hl, hb⟩
    go_wp2_with fail
    go_returns
    exact ⟨_, rfl, ownF_nil, hb⟩

end Go.Proofs.Ytlbbedknldmcpaa
