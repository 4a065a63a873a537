/-
  IdealExact, walked.
-/
import Derived.Test.YtpccahdbienjeaaExact12tr
import Derived.Test.YtpccahdbienjeaaExact12fr
import Derived.Test.YtpccahdbienjeaaExact12tc
import Derived.Test.YtpccahdbienjeaaExact12fc
namespace Go.Proofs.Ytpccahdbienjeaa
open Go.RowKit

theorem exact12_is {v : Value} {ts : List Tk} {cs : List Cmd} (t : Tk) (c : Cmd) (f : Frm) (hl : ts.length + cs.length ≤ 1000000000000000) (w : World) (h1 : IsD w v ts cs) : Calls Try.prog 6 #[v, .agg t.v.toArray, .agg (ccell c).toArray, .agg (mcell f).toArray] w fun e w' => e = .returned (.bool true) ∧ Below w.heap.size w w' := by
  by_cases hg : FitD ts cs f
  · obtain ⟨us, ds, q, hp⟩ := PutT.ex ts cs t
    obtain ⟨us2, ds2, q2, hp2⟩ := PutC.ex ts cs c
    rcases Frm.ok_two hg.2.2 with ⟨_, _, hk, _⟩ | ⟨_, _, hk, _⟩
    · by_cases hx : AccD ts cs f
      · exact exact12_tr t c f hl hg hp hp2 hx hk w h1
      · exact exact12_fr t c f hl hg hp hp2 hx hk w h1
    · by_cases hx : AccD ts cs f
      · exact exact12_tc t c f hl hg hp hp2 hx hk w h1
      · exact exact12_fc t c f hl hg hp hp2 hx hk w h1
  · exact exact12_n t c f hl hg w h1

end Go.Proofs.Ytpccahdbienjeaa
