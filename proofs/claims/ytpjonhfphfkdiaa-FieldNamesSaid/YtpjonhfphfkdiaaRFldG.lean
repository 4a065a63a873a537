/-
  The reference of layer 7: Read.
-/
import Derived.Test.YtpjonhfphfkdiaaRFldF
namespace Go.Proofs.Ytpjonhfphfkdiaa
open Go.RowKit

set_option maxRecDepth 100000 in
set_option maxHeartbeats 1600000 in
theorem rread_is {v u : Value} {ks bs : List Int} (w : World) (h1 : IsL w .u8 v ks) (h2 : IsL w .u8 u bs) (hkb : ∀ k ∈ ks, 0 ≤ k ∧ k ≤ 255) (hbb : Byts bs) (hbl : bs.length ≤ 4000) : Calls Try.prog 22 #[v, u] w (GivesRE (reaF ks bs) (reaE ks bs) w) := by
  have C := rfirst_is w h1 h2 hkb hbb hbl
  have hE : reaE ks bs = if firE ks bs = 0 then (if firR ks bs = [] then 0 else 12) else firE ks bs := rfl
  have hF : reaF ks bs = if reaE ks bs = 0 then firF ks bs else [] := rfl
  obtain ⟨fs, hfs⟩ : ∃ fs, firF ks bs = fs := ⟨_, rfl⟩
  obtain ⟨rs, hrs⟩ : ∃ rs, firR ks bs = rs := ⟨_, rfl⟩
  obtain ⟨c, hc⟩ : ∃ c, firE ks bs = c := ⟨_, rfl⟩
  rw [hfs, hrs, hc] at C
  rw [hrs, hc] at hE
  rw [hfs] at hF
  clear h1 h2
  by_cases h0 : c = 0
  · subst h0
    rw [if_pos rfl] at hE
    by_cases h1 : rs = []
    · rw [if_pos h1] at hE
      rw [hE, if_pos rfl] at hF
      rw [hE, hF]
      subst h1
      clear hE hF hfs hrs hc
      go_enter Try.func22, Try.ntmps22
      go_wp2_with fail
      refine C.mono ?_
      rintro e w1 ⟨v1, u1, rfl, ho, hl, hb⟩
      obtain ⟨a1, c1, rfl, _, _⟩ := IsL.own hl rfl
      go_wp2_with fail
      go_returns
      exact ⟨_, rfl, ho, hb⟩
    · rw [if_neg h1] at hE
      rw [hE, if_neg (by decide)] at hF
      rw [hE, hF]
      have hp : 0 < rs.length := List.length_pos_iff.2 h1
      have d1 : decide (0 < rs.length) = true := decide_eq_true hp
      clear hE hF hfs hrs hc h1 hp
      go_enter Try.func22, Try.ntmps22
      go_wp2_with fail
      refine C.mono ?_
      rintro e w1 ⟨v1, u1, rfl, ho, hl, hb⟩
      obtain ⟨a1, c1, rfl, _, _⟩ := IsL.own hl rfl
      go_wp2_with fail
      go_returns
      exact ⟨_, rfl, ownF_nil, hb⟩
  · rw [if_neg h0] at hE
    rw [hE, if_neg h0] at hF
    rw [hE, hF]
    have d1 : (c != 0) = true := by simpa using h0
    clear hE hF hfs hrs hc h0
    go_enter Try.func22, Try.ntmps22
    go_wp2_with fail
    refine C.mono ?_
    rintro e w1 ⟨v1, u1, rfl, ho, hl, hb⟩
    go_wp2_with fail
    go_returns
    exact ⟨_, rfl, ownF_nil, hb⟩

end Go.Proofs.Ytpjonhfphfkdiaa
