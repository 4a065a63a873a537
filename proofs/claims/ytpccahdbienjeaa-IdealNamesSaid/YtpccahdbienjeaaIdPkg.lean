/-
  Package ideal, walked: all of it.
-/
import Derived.Test.YtpccahdbienjeaaIdPkD
import Derived.Test.YtpccahdbienjeaaIdPkF
import Derived.Test.YtpccahdbienjeaaIdPkG
namespace Go.Proofs.Ytpccahdbienjeaa
theorem pkg12 : (12 : Nat) = 12 := rfl
end Go.Proofs.Ytpccahdbienjeaa
