/-
  No cell of these rows narrows 'for every input' (looked for: loops, veiled, ifaces, maps, wideKeys, modest, calm, conditions, laid).
  DERIVED. THE GIVEN ROWS OF THIS SEAT. 6 by the template 'for every input the law returns true; each argument reads behind the call as it read before'; 0 by the template 'total and deterministic' (their statements: YtipkgflonioacaaTotals.lean).
  GIVEN WITH THE SEED: the statements are not yours to turn. If you find one false, say at which input.
  Laid BY PROGRAM, IN A SANDBOX (cutbox-rows.mjs): the forced cells as the released guide's own fill.sh prints them over the translation 19bca567b0bc29da… (all of the seat's roots in one cut). By AI agents, Wed Nov 11 2026. No macro, syntax, notation, axiom, sorry.
-/
import Derived.Test.YtipkgflonioacaaChecked
import GoSem.Claim
import GoSem.ClaimJoined
import GoSem.ClaimMapViews
import Derived.JoinedTies
import Derived.KernelRfl
namespace Go.Proofs.Ytipkgflonioacaa
/- THE CELL 'sum', in the pinned program and in every row, IS THE sha256 OF THE DUMP (.gsa) THAT YtipkgflonioacaaProg.lean LOADS. Nothing in Lean hashes anything: it is a label: what it is worth is what the hold of that sum in a sandbox is worth. -/
noncomputable def Try.pinned : Pinned := { name := "ytipkgflonioacaa", sum := "19bca567b0bc29da1a645336e07e74aabb023a052addf2a3cf0a49a824380816", checked := Try.checked }
namespace Rows
def none {H : Type} : Left H := { results := [], args := [] }

/-- 'spigotlaw10.ReplyNames': WHATEVER THE INPUT: true; the input reads as it did. -/
def replyNamesSpec : ChangeSpec := { name := "replyNames", fn := fun _ => fun
  | [] => { results := [.lit (.bool true)], args := [] }
  | _ => none }
def replyNamesRow : OpenClaim := { program := "ytipkgflonioacaa", sum := "19bca567b0bc29da1a645336e07e74aabb023a052addf2a3cf0a49a824380816", func := "spigot/spigotlaw10.ReplyNames", spec := "replyNames", unfollowed := true, recurses := true, apart := false }
def ReplyNamesSaid : Prop := replyNamesRow.holds Try.pinned (OpenSpec.ofChange replyNamesSpec)

/-- ITS FALSE NEIGHBOUR: 'it returns false'. Refute it at one input. -/
def replyNamesWrong : ChangeSpec := { name := "replyNames", fn := fun _ => fun
  | [] => { results := [.lit (.bool false)], args := [] }
  | _ => none }
def ReplyNamesWrongFalsely : Prop := replyNamesRow.holds Try.pinned (OpenSpec.ofChange replyNamesWrong)

/-- 'spigotlaw10.ReplyWrites': WHATEVER THE INPUT: true; the input reads as it did. -/
def replyWritesSpec : ChangeSpec := { name := "replyWrites", fn := fun _ => fun
  | [d1, d2] => { results := [.lit (.bool true)], args := [d1, d2] }
  | _ => none }
def replyWritesRow : OpenClaim := { program := "ytipkgflonioacaa", sum := "19bca567b0bc29da1a645336e07e74aabb023a052addf2a3cf0a49a824380816", func := "spigot/spigotlaw10.ReplyWrites", spec := "replyWrites", unfollowed := true, recurses := true, apart := false }
def ReplyWritesSaid : Prop := replyWritesRow.holds Try.pinned (OpenSpec.ofChange replyWritesSpec)

/-- ITS FALSE NEIGHBOUR: 'it returns false'. Refute it at one input. -/
def replyWritesWrong : ChangeSpec := { name := "replyWrites", fn := fun _ => fun
  | [d1, d2] => { results := [.lit (.bool false)], args := [d1, d2] }
  | _ => none }
def ReplyWritesWrongFalsely : Prop := replyWritesRow.holds Try.pinned (OpenSpec.ofChange replyWritesWrong)

/-- 'spigotlaw10.ReplyReads': WHATEVER THE INPUT: true; the input reads as it did. -/
def replyReadsSpec : ChangeSpec := { name := "replyReads", fn := fun _ => fun
  | [d] => { results := [.lit (.bool true)], args := [d] }
  | _ => none }
def replyReadsRow : OpenClaim := { program := "ytipkgflonioacaa", sum := "19bca567b0bc29da1a645336e07e74aabb023a052addf2a3cf0a49a824380816", func := "spigot/spigotlaw10.ReplyReads", spec := "replyReads", unfollowed := true, recurses := true, apart := false }
def ReplyReadsSaid : Prop := replyReadsRow.holds Try.pinned (OpenSpec.ofChange replyReadsSpec)

/-- ITS FALSE NEIGHBOUR: 'it returns false'. Refute it at one input. -/
def replyReadsWrong : ChangeSpec := { name := "replyReads", fn := fun _ => fun
  | [d] => { results := [.lit (.bool false)], args := [d] }
  | _ => none }
def ReplyReadsWrongFalsely : Prop := replyReadsRow.holds Try.pinned (OpenSpec.ofChange replyReadsWrong)

/-- 'spigotlaw10.ReplyOne': WHATEVER THE INPUT: true; the input reads as it did. -/
def replyOneSpec : ChangeSpec := { name := "replyOne", fn := fun _ => fun
  | [d1, d2, d3] => { results := [.lit (.bool true)], args := [d1, d2, d3] }
  | _ => none }
def replyOneRow : OpenClaim := { program := "ytipkgflonioacaa", sum := "19bca567b0bc29da1a645336e07e74aabb023a052addf2a3cf0a49a824380816", func := "spigot/spigotlaw10.ReplyOne", spec := "replyOne", unfollowed := true, recurses := true, apart := false }
def ReplyOneSaid : Prop := replyOneRow.holds Try.pinned (OpenSpec.ofChange replyOneSpec)

/-- ITS FALSE NEIGHBOUR: 'it returns false'. Refute it at one input. -/
def replyOneWrong : ChangeSpec := { name := "replyOne", fn := fun _ => fun
  | [d1, d2, d3] => { results := [.lit (.bool false)], args := [d1, d2, d3] }
  | _ => none }
def ReplyOneWrongFalsely : Prop := replyOneRow.holds Try.pinned (OpenSpec.ofChange replyOneWrong)

/-- 'spigotlaw10.ReplyBare': WHATEVER THE INPUT: true; the input reads as it did. -/
def replyBareSpec : ChangeSpec := { name := "replyBare", fn := fun _ => fun
  | [d1, d2] => { results := [.lit (.bool true)], args := [d1, d2] }
  | _ => none }
def replyBareRow : OpenClaim := { program := "ytipkgflonioacaa", sum := "19bca567b0bc29da1a645336e07e74aabb023a052addf2a3cf0a49a824380816", func := "spigot/spigotlaw10.ReplyBare", spec := "replyBare", unfollowed := true, recurses := true, apart := false }
def ReplyBareSaid : Prop := replyBareRow.holds Try.pinned (OpenSpec.ofChange replyBareSpec)

/-- ITS FALSE NEIGHBOUR: 'it returns false'. Refute it at one input. -/
def replyBareWrong : ChangeSpec := { name := "replyBare", fn := fun _ => fun
  | [d1, d2] => { results := [.lit (.bool false)], args := [d1, d2] }
  | _ => none }
def ReplyBareWrongFalsely : Prop := replyBareRow.holds Try.pinned (OpenSpec.ofChange replyBareWrong)

/-- 'spigotlaw10.ReplyChanged': WHATEVER THE INPUT: true; the input reads as it did. -/
def replyChangedSpec : ChangeSpec := { name := "replyChanged", fn := fun _ => fun
  | [d1, d2, d3] => { results := [.lit (.bool true)], args := [d1, d2, d3] }
  | _ => none }
def replyChangedRow : OpenClaim := { program := "ytipkgflonioacaa", sum := "19bca567b0bc29da1a645336e07e74aabb023a052addf2a3cf0a49a824380816", func := "spigot/spigotlaw10.ReplyChanged", spec := "replyChanged", unfollowed := true, recurses := true, apart := false }
def ReplyChangedSaid : Prop := replyChangedRow.holds Try.pinned (OpenSpec.ofChange replyChangedSpec)

/-- ITS FALSE NEIGHBOUR: 'it returns false'. Refute it at one input. -/
def replyChangedWrong : ChangeSpec := { name := "replyChanged", fn := fun _ => fun
  | [d1, d2, d3] => { results := [.lit (.bool false)], args := [d1, d2, d3] }
  | _ => none }
def ReplyChangedWrongFalsely : Prop := replyChangedRow.holds Try.pinned (OpenSpec.ofChange replyChangedWrong)

/- THE SECOND FORM. 'bulk': how many values and letters a reading holds, each counted each time it is reached (what is shared counts as often as it is met; a slice's spare places count too). A statement '..UptoSaid' is the law's where the arguments, and the package variables that the reading takes, are together of bulk at most 1048576: NARROWER than '..Said'. Prove '..Said' where nothing that the law and all that it calls make is longer than what came in: it says more and counts as full. Else prove '..UptoSaid'. A law counts once. -/
mutual
def uptoBulk {H : Type} : DataW H → Nat
  | .lit (.string bytes) => bytes.length + 1
  | .lit _ => 1
  | .nil => 1
  | .ptr d => uptoBulk d + 1
  | .slice elems spare => uptoBulkAll elems + uptoBulkAll spare + 1
  | .agg parts => uptoBulkAll parts + 1
  | .iface _ d => uptoBulk d + 1
  | .map entries => uptoBulkEntries entries + 1
  | .held _ => 1
def uptoBulkAll {H : Type} : List (DataW H) → Nat
  | [] => 0
  | d :: r => uptoBulk d + uptoBulkAll r
def uptoBulkEntries {H : Type} : List (Lit × DataW H) → Nat
  | [] => 0
  | x :: r => uptoBulkEntry x + uptoBulkEntries r
def uptoBulkEntry {H : Type} : Lit × DataW H → Nat
  | (.string bytes, d) => bytes.length + uptoBulk d + 1
  | (_, d) => uptoBulk d + 1
 end
def uptoSmall : (H : Type) → List (DataW H) → Bool := fun _ ds => decide (uptoBulkAll ds ≤ 1048576)
def OpenSpec.upto (s : _root_.Go.ChangeSpec) : _root_.Go.OpenSpec := { _root_.Go.OpenSpec.ofChange s with cond := some uptoSmall }

/-- 'spigotlaw10.ReplyNames', WHERE WHAT IT READS IS OF BULK AT MOST 1048576: true; the input reads as it did. -/
def replyNamesUptoRow : OpenClaim := { program := "ytipkgflonioacaa", sum := "19bca567b0bc29da1a645336e07e74aabb023a052addf2a3cf0a49a824380816", func := "spigot/spigotlaw10.ReplyNames", spec := "replyNames", unfollowed := true, recurses := true, apart := false, narrowed := true }
def ReplyNamesUptoSaid : Prop := replyNamesUptoRow.holds Try.pinned (OpenSpec.upto replyNamesSpec)

/-- 'spigotlaw10.ReplyWrites', WHERE WHAT IT READS IS OF BULK AT MOST 1048576: true; the input reads as it did. -/
def replyWritesUptoRow : OpenClaim := { program := "ytipkgflonioacaa", sum := "19bca567b0bc29da1a645336e07e74aabb023a052addf2a3cf0a49a824380816", func := "spigot/spigotlaw10.ReplyWrites", spec := "replyWrites", unfollowed := true, recurses := true, apart := false, narrowed := true }
def ReplyWritesUptoSaid : Prop := replyWritesUptoRow.holds Try.pinned (OpenSpec.upto replyWritesSpec)

/-- 'spigotlaw10.ReplyReads', WHERE WHAT IT READS IS OF BULK AT MOST 1048576: true; the input reads as it did. -/
def replyReadsUptoRow : OpenClaim := { program := "ytipkgflonioacaa", sum := "19bca567b0bc29da1a645336e07e74aabb023a052addf2a3cf0a49a824380816", func := "spigot/spigotlaw10.ReplyReads", spec := "replyReads", unfollowed := true, recurses := true, apart := false, narrowed := true }
def ReplyReadsUptoSaid : Prop := replyReadsUptoRow.holds Try.pinned (OpenSpec.upto replyReadsSpec)

/-- 'spigotlaw10.ReplyOne', WHERE WHAT IT READS IS OF BULK AT MOST 1048576: true; the input reads as it did. -/
def replyOneUptoRow : OpenClaim := { program := "ytipkgflonioacaa", sum := "19bca567b0bc29da1a645336e07e74aabb023a052addf2a3cf0a49a824380816", func := "spigot/spigotlaw10.ReplyOne", spec := "replyOne", unfollowed := true, recurses := true, apart := false, narrowed := true }
def ReplyOneUptoSaid : Prop := replyOneUptoRow.holds Try.pinned (OpenSpec.upto replyOneSpec)

/-- 'spigotlaw10.ReplyBare', WHERE WHAT IT READS IS OF BULK AT MOST 1048576: true; the input reads as it did. -/
def replyBareUptoRow : OpenClaim := { program := "ytipkgflonioacaa", sum := "19bca567b0bc29da1a645336e07e74aabb023a052addf2a3cf0a49a824380816", func := "spigot/spigotlaw10.ReplyBare", spec := "replyBare", unfollowed := true, recurses := true, apart := false, narrowed := true }
def ReplyBareUptoSaid : Prop := replyBareUptoRow.holds Try.pinned (OpenSpec.upto replyBareSpec)

/-- 'spigotlaw10.ReplyChanged', WHERE WHAT IT READS IS OF BULK AT MOST 1048576: true; the input reads as it did. -/
def replyChangedUptoRow : OpenClaim := { program := "ytipkgflonioacaa", sum := "19bca567b0bc29da1a645336e07e74aabb023a052addf2a3cf0a49a824380816", func := "spigot/spigotlaw10.ReplyChanged", spec := "replyChanged", unfollowed := true, recurses := true, apart := false, narrowed := true }
def ReplyChangedUptoSaid : Prop := replyChangedUptoRow.holds Try.pinned (OpenSpec.upto replyChangedSpec)

end Rows
end Go.Proofs.Ytipkgflonioacaa
