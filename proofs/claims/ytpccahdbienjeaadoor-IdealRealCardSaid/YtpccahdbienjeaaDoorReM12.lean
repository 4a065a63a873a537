/-
  The mathematics of IdealReal: of what is right, a table accepts just that whose message it has.
-/
import Derived.Test.YtpccahdbienjeaaDoorKyMath
import Derived.Test.YtpccahdbienjeaaDoorRIdM
import Derived.Test.YtpccahdbienjeaaDoorIdMn
namespace Go.Proofs.YtpccahdbienjeaaDoor
open Go.RowKit

theorem tru_tok {S : List Int} {t : Tk} : Tru S t.fr ↔ TruT S t.k t.g := Tru.of1 (by show (1 : Int) ≠ 2; decide)
theorem tru_cmd {S : List Int} {c : Cmd} : Tru S (Frm.cmd c) ↔ TruC S c := Tru.of2 rfl
theorem real_iff {S : List Int} {ts : List Tk} {cs : List Cmd} {f : Frm} (hT : ∀ t ∈ ts, Tru S t.fr) (hC : ∀ c ∈ cs, Tru S (Frm.cmd c)) : AccD ts cs f ↔ Tru S f ∧ MesD ts cs f := by
  by_cases hk : f.kd = 2
  · rw [AccD.of2 hk, Tru.of2 hk]
    constructor
    · exact fun h => ⟨tru_cmd.1 (hC _ h), fun _ => ⟨_, h, rfl⟩, fun g => absurd hk g⟩
    · rintro ⟨h1, h2⟩
      obtain ⟨u, hu, e⟩ := h2.1 hk
      have h3 := tru_cmd.1 (hC u hu)
      have hn := cmd_bare_iff.1 e
      have hm : u.msg = f.c.msg := by unfold Cmd.msg; rw [hn]
      have hg : u.g = f.c.g := by
        rw [← show cmdTag S u = u.g from h3, ← show cmdTag S f.c = f.c.g from h1]
        unfold cmdTag
        rw [hm]
      rw [← Cmd.ns_inj hn hg]
      exact hu
  · rw [AccD.of1 hk, Tru.of1 hk]
    constructor
    · exact fun h => ⟨tru_tok.1 (hT _ h), fun g => absurd g hk, fun _ => ⟨_, h, rfl⟩⟩
    · rintro ⟨h1, h2⟩
      obtain ⟨u, hu, e⟩ := h2.2 hk
      have h3 := tru_tok.1 (hT u hu)
      have hn : u.k = f.r.k := tk_bare_iff.1 e
      have hg : u.g = f.r.g := by
        rw [← h3.2, ← h1.2, hn]
      have : u = f.r.tk := Tk.ext' hn hg
      rw [← this]
      exact hu
theorem rig_ok {S : List Int} {f : Frm} (hf : f.Ok) {b : Bool} (hb : b = true ↔ Tru S f) : RigOf S f b 0 := Or.inl ⟨rfl, hf, hb⟩
end Go.Proofs.YtpccahdbienjeaaDoor
