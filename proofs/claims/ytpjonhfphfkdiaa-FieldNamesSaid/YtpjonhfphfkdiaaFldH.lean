/-
  Package field, walked: Read, First; bytes.Clone.
-/
import Derived.Test.YtpjonhfphfkdiaaFldG
namespace Go.Proofs.Ytpjonhfphfkdiaa
open Go.RowKit

def GivesRE (fs : List Fd) (c : Int) (w : World) (e : Ending) (w' : World) : Prop :=
  ∃ v, e = .returned (.tuple #[v, .int .i64 c]) ∧ w'.ownsRow w.heap.size 30 34 v fs.length (flatR LF fs) ∧ Below w.heap.size w w'
def GivesOwn (bs : List Int) (w : World) (e : Ending) (w' : World) : Prop := ∃ v, e = .returned v ∧ w'.ownsRow w.heap.size 5 1 v bs.length (bs.map (Value.int .u8)) ∧ Below w.heap.size w w'
def GivesRO (fs : List Fd) (bs : List Int) (c : Int) (w : World) (e : Ending) (w' : World) : Prop :=
  ∃ v u, e = .returned (.tuple #[v, u, .int .i64 c]) ∧ w'.ownsRow w.heap.size 30 34 v fs.length (flatR LF fs) ∧ w'.ownsRow w.heap.size 5 1 u bs.length (bs.map (Value.int .u8)) ∧ Below w.heap.size w w'
theorem ownU_nil {w : World} {B : Nat} : w.ownsRow B 5 1 (.slice none 0 0) ([] : List Int).length (([] : List Int).map (Value.int .u8)) := ⟨rfl, Or.inl ⟨rfl, rfl⟩⟩
theorem nil_eq (W : World) : (binOp .eql 33 (.slice none 0 0) (.slice none 0 0)).run Try.prog W = .ok (.bool true) W := by kernel_rfl
theorem some_eq (ad : Addr) (n c : Nat) (W : World) : (binOp .eql 33 (.slice (some ad) n c) (.slice none 0 0)).run Try.prog W = .ok (.bool false) W := by kernel_rfl
theorem ret2v {v : Value} {c d : Int} (h : c = d) : Ending.returned (.tuple #[v, .int .i64 c]) = .returned (.tuple #[v, .int .i64 d]) := by rw [h]

theorem readRow_is {v u : Value} {ks bs : List Int} (w : World) (h1 : IsL w .u8 v ks) (h2 : IsL w .u8 u bs) (hkb : ∀ k ∈ ks, 0 ≤ k ∧ k ≤ 255) (hbb : Byts bs) : Calls Try.prog 30 #[v, u] w (GivesRL (firF ks bs) (firR ks bs) (firE ks bs) w) := by
  by_cases h : kinE ks = 0
  · exact readRow_ok w h1 h2 hkb hbb h
  · exact readRow_bad w h1 h
theorem firE_no {ks bs : List Int} (h : firE ks bs ≠ 0) : firF ks bs = [] ∧ firR ks bs = [] := by
  rcases kinE_cases ks with q | q | q
  · cases hr : rd ks bs with
    | none => exact (fir_none q hr).2
    | some p => exact absurd (by unfold firE; rw [if_pos q, hr]) h
  · exact (fir_bad q (by decide)).2
  · exact (fir_bad q (by decide)).2

set_option maxRecDepth 100000 in
set_option maxHeartbeats 1600000 in
theorem clone_is {v : Value} {bs : List Int} (w : World) (h1 : IsL w .u8 v bs) (hl : bs.length ≤ 4000) : Calls Try.prog 31 #[v] w (GivesOwn bs w) := by
  obtain ⟨a0, c0, rfl, hr, h0⟩ := id h1
  have i1 := hr.room
  have i2 := hr.most
  obtain ⟨ti, hin, hz0, hz1, hz2⟩ := info_parts info_u8'
  cases a0 with
  | none =>
    obtain rfl := h0 rfl
    obtain rfl : bs = [] := List.eq_nil_of_length_eq_zero (by omega)
    clear hr h0 h1 i1 i2 hl
    have hq := nil_eq
    go_enter Try.func31, Try.ntmps31
    go_wp2_with fail
    go_returns
    exact ⟨_, rfl, ownU_nil, Below.refl _ _⟩
  | some ad =>
    have HL := Lib.hid h1
    have hq := some_eq ad bs.length c0
    clear hr h0 h1
    go_enter Try.func31, Try.ntmps31
    go_wp2_with (at_builtin; refine wpList_append_built rfl _ _ 33 rfl 5 ti (.int .u8 0) 1 .u8 Try.underlying33 hin hz0 hz1 hz2 rfl [] bs _ (.slice (some ad) bs.length c0) _ _ _ rfl rfl rfl rfl rfl rfl HL.out (by unfold maxLen; simp; omega) (by simp; omega) ?_; intro v1 w1 ho hb)
    go_returns
    exact ⟨_, rfl, ho, hb⟩

set_option maxRecDepth 100000 in
set_option maxHeartbeats 1600000 in
theorem read_is {v u : Value} {ks bs : List Int} (w : World) (h1 : IsL w .u8 v ks) (h2 : IsL w .u8 u bs) (hkb : ∀ k ∈ ks, 0 ≤ k ∧ k ≤ 255) (hbb : Byts bs) : Calls Try.prog 14 #[v, u] w (GivesRE (reaF ks bs) (reaE ks bs) w) := by
  have C := readRow_is w h1 h2 hkb hbb
  have hk := Lib.hid (firE_no (ks := ks) (bs := bs))
  have hE : reaE ks bs = if firE ks bs = 0 then (if firR ks bs = [] then 0 else 12) else firE ks bs := rfl
  have hF : reaF ks bs = if reaE ks bs = 0 then firF ks bs else [] := rfl
  obtain ⟨fs, hfs⟩ : ∃ fs, firF ks bs = fs := ⟨_, rfl⟩
  obtain ⟨rs, hrs⟩ : ∃ rs, firR ks bs = rs := ⟨_, rfl⟩
  obtain ⟨c, hc⟩ : ∃ c, firE ks bs = c := ⟨_, rfl⟩
  rw [hfs, hrs, hc] at C
  rw [hrs, hc] at hE
  rw [hfs] at hF
  clear h1 h2 hk
  by_cases h0 : c = 0
  · subst h0
    rw [if_pos rfl] at hE
    by_cases h1 : rs = []
    · rw [if_pos h1] at hE
      rw [hE, if_pos rfl] at hF
      rw [hE, hF]
      subst h1
      clear hE hF hfs hrs hc
      go_enter Try.func14, Try.ntmps14
      go_wp2_with fail
      refine C.mono ?_
      rintro e w1 ⟨v1, u1, rfl, ho, hl, hb⟩
      obtain ⟨a1, c1, rfl, _, _⟩ := hl
      go_wp2_with fail
      go_returns
      exact ⟨_, rfl, ho, hb⟩
    · rw [if_neg h1] at hE
      rw [hE, if_neg (by decide)] at hF
      rw [hE, hF]
      have hp : 0 < rs.length := List.length_pos_iff.2 h1
      have d1 : decide (0 < rs.length) = true := decide_eq_true hp
      clear hE hF hfs hrs hc h1 hp
      go_enter Try.func14, Try.ntmps14
      go_wp2_with fail
      refine C.mono ?_
      rintro e w1 ⟨v1, u1, rfl, ho, hl, hb⟩
      obtain ⟨a1, c1, rfl, _, _⟩ := hl
      go_wp2_with fail
      go_returns
      exact ⟨_, rfl, ownF_nil, hb⟩
  · rw [if_neg h0] at hE
    rw [hE, if_neg h0] at hF
    rw [hE, hF]
    have d1 : (c != 0) = true := by simpa using h0
    clear hE hF hfs hrs hc h0
    go_enter Try.func14, Try.ntmps14
    go_wp2_with fail
    refine C.mono ?_
    rintro e w1 ⟨v1, u1, rfl, ho, hl, hb⟩
    go_wp2_with fail
    go_returns
    exact ⟨_, rfl, ownF_nil, hb⟩

set_option maxRecDepth 100000 in
set_option maxHeartbeats 1600000 in
theorem first_is {v u : Value} {ks bs : List Int} (w : World) (h1 : IsL w .u8 v ks) (h2 : IsL w .u8 u bs) (hkb : ∀ k ∈ ks, 0 ≤ k ∧ k ≤ 255) (hbb : Byts bs) (hbl : bs.length ≤ 4000) : Calls Try.prog 15 #[v, u] w (GivesRO (firF ks bs) (firR ks bs) (firE ks bs) w) := by
  have C := readRow_is w h1 h2 hkb hbb
  have hk := firE_no (ks := ks) (bs := bs)
  have hr := (firF_len (ks := ks) hkb hbb).2
  obtain ⟨fs, hfs⟩ : ∃ fs, firF ks bs = fs := ⟨_, rfl⟩
  obtain ⟨rs, hrs⟩ : ∃ rs, firR ks bs = rs := ⟨_, rfl⟩
  obtain ⟨c, hc⟩ : ∃ c, firE ks bs = c := ⟨_, rfl⟩
  rw [hfs, hrs, hc] at C ⊢
  rw [hfs, hrs, hc] at hk
  rw [hrs] at hr
  clear h1 h2 hkb hbb hfs hrs hc
  by_cases h0 : c = 0
  · subst h0
    have hl : rs.length ≤ 4000 := by omega
    clear hk hr hbl
    go_enter Try.func15, Try.ntmps15
    go_wp2_with fail
    refine C.mono ?_
    rintro e w1 ⟨v1, u1, rfl, ho, hl1, hb⟩
    go_wp2_with fail
    refine (clone_is _ hl1 hl).mono ?_
    rintro e w2 ⟨v2, rfl, ho2, hb2⟩
    have hB2 := below_thru hb hb2
    have ho1 := ownR_below ho hb2
    have hs := hb.size
    go_wp2_with fail
    go_returns
    exact ⟨_, _, rfl, ho1, ownR_base ho2 hs, hB2⟩
  · obtain ⟨rfl, rfl⟩ := hk h0
    have d1 : (c != 0) = true := by simpa using h0
    clear hk h0
    go_enter Try.func15, Try.ntmps15
    go_wp2_with fail
    refine C.mono ?_
    rintro e w1 ⟨v1, u1, rfl, ho, hl1, hb⟩
    go_wp2_with fail
    go_returns
    exact ⟨_, _, rfl, ownF_nil, ownU_nil, hb⟩

end Go.Proofs.Ytpjonhfphfkdiaa
