/-
  No cell of these rows narrows 'for every input' (looked for: loops, veiled, ifaces, maps, wideKeys, modest, calm, conditions, laid).
  DERIVED. THE GIVEN ROWS OF THIS SEAT. 5 by the template 'for every input the law returns true; each argument reads behind the call as it read before'; 0 by the template 'total and deterministic' (their statements: YtpccahdbienjeaaTotals.lean).
  GIVEN WITH THE SEED: the statements are not yours to turn. If you find one false, say at which input.
  Laid BY PROGRAM, IN A SANDBOX (cutbox-rows.mjs): the forced cells as the released guide's own fill.sh prints them over the translation 432d5bd982add570… (all of the seat's roots in one cut). By AI agents, Wed Nov 11 2026. No macro, syntax, notation, axiom, sorry.
-/
import Derived.Test.YtpccahdbienjeaaChecked
import GoSem.Claim
import GoSem.ClaimJoined
import GoSem.ClaimMapViews
import Derived.JoinedTies
import Derived.KernelRfl
namespace Go.Proofs.Ytpccahdbienjeaa
/- THE CELL 'sum', in the pinned program and in every row, IS THE sha256 OF THE DUMP (.gsa) THAT YtpccahdbienjeaaProg.lean LOADS. Nothing in Lean hashes anything: it is a label: what it is worth is what the hold of that sum in a sandbox is worth. -/
noncomputable def Try.pinned : Pinned := { name := "ytpccahdbienjeaa", sum := "432d5bd982add570d81ff6a0a52ef0c051af94d8b3379f84d0386fd7acb0e59e", checked := Try.checked }
namespace Rows
def none {H : Type} : Left H := { results := [], args := [] }

/-- 'spigotlaw12.IdealNames': WHATEVER THE INPUT: true; the input reads as it did. -/
def idealNamesSpec : ChangeSpec := { name := "idealNames", fn := fun _ => fun
  | [] => { results := [.lit (.bool true)], args := [] }
  | _ => none }
def idealNamesRow : OpenClaim := { program := "ytpccahdbienjeaa", sum := "432d5bd982add570d81ff6a0a52ef0c051af94d8b3379f84d0386fd7acb0e59e", func := "spigot/spigotlaw12.IdealNames", spec := "idealNames", unfollowed := true, recurses := true, apart := false }
def IdealNamesSaid : Prop := idealNamesRow.holds Try.pinned (OpenSpec.ofChange idealNamesSpec)

/-- ITS FALSE NEIGHBOUR: 'it returns false'. Refute it at one input. -/
def idealNamesWrong : ChangeSpec := { name := "idealNames", fn := fun _ => fun
  | [] => { results := [.lit (.bool false)], args := [] }
  | _ => none }
def IdealNamesWrongFalsely : Prop := idealNamesRow.holds Try.pinned (OpenSpec.ofChange idealNamesWrong)

/-- 'spigotlaw12.IdealMints': WHATEVER THE INPUT: true; the input reads as it did. -/
def idealMintsSpec : ChangeSpec := { name := "idealMints", fn := fun _ => fun
  | [d1, d2, d3] => { results := [.lit (.bool true)], args := [d1, d2, d3] }
  | _ => none }
def idealMintsRow : OpenClaim := { program := "ytpccahdbienjeaa", sum := "432d5bd982add570d81ff6a0a52ef0c051af94d8b3379f84d0386fd7acb0e59e", func := "spigot/spigotlaw12.IdealMints", spec := "idealMints", unfollowed := true, recurses := true, apart := false }
def IdealMintsSaid : Prop := idealMintsRow.holds Try.pinned (OpenSpec.ofChange idealMintsSpec)

/-- ITS FALSE NEIGHBOUR: 'it returns false'. Refute it at one input. -/
def idealMintsWrong : ChangeSpec := { name := "idealMints", fn := fun _ => fun
  | [d1, d2, d3] => { results := [.lit (.bool false)], args := [d1, d2, d3] }
  | _ => none }
def IdealMintsWrongFalsely : Prop := idealMintsRow.holds Try.pinned (OpenSpec.ofChange idealMintsWrong)

/-- 'spigotlaw12.IdealAccepts': WHATEVER THE INPUT: true; the input reads as it did. -/
def idealAcceptsSpec : ChangeSpec := { name := "idealAccepts", fn := fun _ => fun
  | [d1, d2] => { results := [.lit (.bool true)], args := [d1, d2] }
  | _ => none }
def idealAcceptsRow : OpenClaim := { program := "ytpccahdbienjeaa", sum := "432d5bd982add570d81ff6a0a52ef0c051af94d8b3379f84d0386fd7acb0e59e", func := "spigot/spigotlaw12.IdealAccepts", spec := "idealAccepts", unfollowed := true, recurses := true, apart := false }
def IdealAcceptsSaid : Prop := idealAcceptsRow.holds Try.pinned (OpenSpec.ofChange idealAcceptsSpec)

/-- ITS FALSE NEIGHBOUR: 'it returns false'. Refute it at one input. -/
def idealAcceptsWrong : ChangeSpec := { name := "idealAccepts", fn := fun _ => fun
  | [d1, d2] => { results := [.lit (.bool false)], args := [d1, d2] }
  | _ => none }
def IdealAcceptsWrongFalsely : Prop := idealAcceptsRow.holds Try.pinned (OpenSpec.ofChange idealAcceptsWrong)

/-- 'spigotlaw12.IdealExact': WHATEVER THE INPUT: true; the input reads as it did. -/
def idealExactSpec : ChangeSpec := { name := "idealExact", fn := fun _ => fun
  | [d1, d2, d3, d4] => { results := [.lit (.bool true)], args := [d1, d2, d3, d4] }
  | _ => none }
def idealExactRow : OpenClaim := { program := "ytpccahdbienjeaa", sum := "432d5bd982add570d81ff6a0a52ef0c051af94d8b3379f84d0386fd7acb0e59e", func := "spigot/spigotlaw12.IdealExact", spec := "idealExact", unfollowed := true, recurses := true, apart := false }
def IdealExactSaid : Prop := idealExactRow.holds Try.pinned (OpenSpec.ofChange idealExactSpec)

/-- ITS FALSE NEIGHBOUR: 'it returns false'. Refute it at one input. -/
def idealExactWrong : ChangeSpec := { name := "idealExact", fn := fun _ => fun
  | [d1, d2, d3, d4] => { results := [.lit (.bool false)], args := [d1, d2, d3, d4] }
  | _ => none }
def IdealExactWrongFalsely : Prop := idealExactRow.holds Try.pinned (OpenSpec.ofChange idealExactWrong)

/-- 'spigotlaw12.IdealOrder': WHATEVER THE INPUT: true; the input reads as it did. -/
def idealOrderSpec : ChangeSpec := { name := "idealOrder", fn := fun _ => fun
  | [d1, d2, d3, d4, d5, d6] => { results := [.lit (.bool true)], args := [d1, d2, d3, d4, d5, d6] }
  | _ => none }
def idealOrderRow : OpenClaim := { program := "ytpccahdbienjeaa", sum := "432d5bd982add570d81ff6a0a52ef0c051af94d8b3379f84d0386fd7acb0e59e", func := "spigot/spigotlaw12.IdealOrder", spec := "idealOrder", unfollowed := true, recurses := true, apart := false }
def IdealOrderSaid : Prop := idealOrderRow.holds Try.pinned (OpenSpec.ofChange idealOrderSpec)

/-- ITS FALSE NEIGHBOUR: 'it returns false'. Refute it at one input. -/
def idealOrderWrong : ChangeSpec := { name := "idealOrder", fn := fun _ => fun
  | [d1, d2, d3, d4, d5, d6] => { results := [.lit (.bool false)], args := [d1, d2, d3, d4, d5, d6] }
  | _ => none }
def IdealOrderWrongFalsely : Prop := idealOrderRow.holds Try.pinned (OpenSpec.ofChange idealOrderWrong)

/- THE SECOND FORM. 'bulk': how many values and letters a reading holds, each counted each time it is reached (what is shared counts as often as it is met; a slice's spare places count too). A statement '..UptoSaid' is the law's where the arguments, and the package variables that the reading takes, are together of bulk at most 1048576: NARROWER than '..Said'. Prove '..Said' where nothing that the law and all that it calls make is longer than what came in: it says more and counts as full. Else prove '..UptoSaid'. A law counts once. -/
mutual
def uptoBulk {H : Type} : DataW H → Nat
  | .lit (.string bytes) => bytes.length + 1
  | .lit _ => 1
  | .nil => 1
  | .ptr d => uptoBulk d + 1
  | .slice elems spare => uptoBulkAll elems + uptoBulkAll spare + 1
  | .agg parts => uptoBulkAll parts + 1
  | .iface _ d => uptoBulk d + 1
  | .map entries => uptoBulkEntries entries + 1
  | .held _ => 1
def uptoBulkAll {H : Type} : List (DataW H) → Nat
  | [] => 0
  | d :: r => uptoBulk d + uptoBulkAll r
def uptoBulkEntries {H : Type} : List (Lit × DataW H) → Nat
  | [] => 0
  | x :: r => uptoBulkEntry x + uptoBulkEntries r
def uptoBulkEntry {H : Type} : Lit × DataW H → Nat
  | (.string bytes, d) => bytes.length + uptoBulk d + 1
  | (_, d) => uptoBulk d + 1
 end
def uptoSmall : (H : Type) → List (DataW H) → Bool := fun _ ds => decide (uptoBulkAll ds ≤ 1048576)
def OpenSpec.upto (s : _root_.Go.ChangeSpec) : _root_.Go.OpenSpec := { _root_.Go.OpenSpec.ofChange s with cond := some uptoSmall }

/-- 'spigotlaw12.IdealNames', WHERE WHAT IT READS IS OF BULK AT MOST 1048576: true; the input reads as it did. -/
def idealNamesUptoRow : OpenClaim := { program := "ytpccahdbienjeaa", sum := "432d5bd982add570d81ff6a0a52ef0c051af94d8b3379f84d0386fd7acb0e59e", func := "spigot/spigotlaw12.IdealNames", spec := "idealNames", unfollowed := true, recurses := true, apart := false, narrowed := true }
def IdealNamesUptoSaid : Prop := idealNamesUptoRow.holds Try.pinned (OpenSpec.upto idealNamesSpec)

/-- 'spigotlaw12.IdealMints', WHERE WHAT IT READS IS OF BULK AT MOST 1048576: true; the input reads as it did. -/
def idealMintsUptoRow : OpenClaim := { program := "ytpccahdbienjeaa", sum := "432d5bd982add570d81ff6a0a52ef0c051af94d8b3379f84d0386fd7acb0e59e", func := "spigot/spigotlaw12.IdealMints", spec := "idealMints", unfollowed := true, recurses := true, apart := false, narrowed := true }
def IdealMintsUptoSaid : Prop := idealMintsUptoRow.holds Try.pinned (OpenSpec.upto idealMintsSpec)

/-- 'spigotlaw12.IdealAccepts', WHERE WHAT IT READS IS OF BULK AT MOST 1048576: true; the input reads as it did. -/
def idealAcceptsUptoRow : OpenClaim := { program := "ytpccahdbienjeaa", sum := "432d5bd982add570d81ff6a0a52ef0c051af94d8b3379f84d0386fd7acb0e59e", func := "spigot/spigotlaw12.IdealAccepts", spec := "idealAccepts", unfollowed := true, recurses := true, apart := false, narrowed := true }
def IdealAcceptsUptoSaid : Prop := idealAcceptsUptoRow.holds Try.pinned (OpenSpec.upto idealAcceptsSpec)

/-- 'spigotlaw12.IdealExact', WHERE WHAT IT READS IS OF BULK AT MOST 1048576: true; the input reads as it did. -/
def idealExactUptoRow : OpenClaim := { program := "ytpccahdbienjeaa", sum := "432d5bd982add570d81ff6a0a52ef0c051af94d8b3379f84d0386fd7acb0e59e", func := "spigot/spigotlaw12.IdealExact", spec := "idealExact", unfollowed := true, recurses := true, apart := false, narrowed := true }
def IdealExactUptoSaid : Prop := idealExactUptoRow.holds Try.pinned (OpenSpec.upto idealExactSpec)

/-- 'spigotlaw12.IdealOrder', WHERE WHAT IT READS IS OF BULK AT MOST 1048576: true; the input reads as it did. -/
def idealOrderUptoRow : OpenClaim := { program := "ytpccahdbienjeaa", sum := "432d5bd982add570d81ff6a0a52ef0c051af94d8b3379f84d0386fd7acb0e59e", func := "spigot/spigotlaw12.IdealOrder", spec := "idealOrder", unfollowed := true, recurses := true, apart := false, narrowed := true }
def IdealOrderUptoSaid : Prop := idealOrderUptoRow.holds Try.pinned (OpenSpec.upto idealOrderSpec)

end Rows
end Go.Proofs.Ytpccahdbienjeaa
