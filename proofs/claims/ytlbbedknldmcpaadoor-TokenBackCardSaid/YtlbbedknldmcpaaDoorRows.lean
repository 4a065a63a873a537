/-
  NARROWER THAN 'FOR EVERY INPUT', by the rows' own cells (each row's printed sentence says how): TokenNames: laid · TokenMints: laid · TokenTrue: laid · TokenOther: laid · TokenBack: laid · TokenLate: laid.
  DERIVED. THE GIVEN ROWS OF THIS SEAT. 6 by the template 'for every input the law returns true; each argument reads behind the call as it read before'; 0 by the template 'total and deterministic' (their statements: YtlbbedknldmcpaaDoorTotals.lean).
  GIVEN WITH THE SEED: the statements are not yours to turn. If you find one false, say at which input.
  Laid BY PROGRAM, IN A SANDBOX (cutbox-rows.mjs): the forced cells as the released guide's own fill.sh prints them over the translation eef650c774e9f668… (all of the seat's roots in one cut). By AI agents, Wed Nov 11 2026. No macro, syntax, notation, axiom, sorry.
-/
import Derived.Test.YtlbbedknldmcpaaDoorChecked
import GoSem.Claim
import GoSem.ClaimJoined
import GoSem.ClaimMapViews
import Derived.JoinedTies
import Derived.KernelRfl
namespace Go.Proofs.YtlbbedknldmcpaaDoor
/- THE CELL 'sum', in the pinned program and in every row, IS THE sha256 OF THE DUMP (.gsa) THAT YtlbbedknldmcpaaDoorProg.lean LOADS. Nothing in Lean hashes anything: it is a label: what it is worth is what the hold of that sum in a sandbox is worth. -/
noncomputable def Tryd.pinned : Pinned := { name := "ytlbbedknldmcpaadoor", sum := "eef650c774e9f6683150183fde593a036c9b4abb827d42dfd799ff7e8ad9fe9a", checked := Tryd.checked }
namespace Rows
def none {H : Type} : Left H := { results := [], args := [] }

/- WHAT THE LISTED PACKAGE-LEVEL VARIABLES READ AS WHEN THE CALL BEGINS. Each datum BY PROGRAM (the guide's laid-datum.mjs) off the statement by which the dump's own 'gosem.cut.vars' lays the variable. In a bare row this is a premise. The card (YtlbbedknldmcpaaDoorCards.lean) ties it to the program's text. -/
def laid_spigot_sha_firstWords {H : Type} : DataW H := .agg [.lit (.int .u32 1779033703), .lit (.int .u32 3144134277), .lit (.int .u32 1013904242), .lit (.int .u32 2773480762), .lit (.int .u32 1359893119), .lit (.int .u32 2600822924), .lit (.int .u32 528734635), .lit (.int .u32 1541459225)]
def laid_spigot_sha_constants {H : Type} : DataW H := .agg [.lit (.int .u32 1116352408), .lit (.int .u32 1899447441), .lit (.int .u32 3049323471), .lit (.int .u32 3921009573), .lit (.int .u32 961987163), .lit (.int .u32 1508970993), .lit (.int .u32 2453635748), .lit (.int .u32 2870763221), .lit (.int .u32 3624381080), .lit (.int .u32 310598401), .lit (.int .u32 607225278), .lit (.int .u32 1426881987), .lit (.int .u32 1925078388), .lit (.int .u32 2162078206), .lit (.int .u32 2614888103), .lit (.int .u32 3248222580), .lit (.int .u32 3835390401), .lit (.int .u32 4022224774), .lit (.int .u32 264347078), .lit (.int .u32 604807628), .lit (.int .u32 770255983), .lit (.int .u32 1249150122), .lit (.int .u32 1555081692), .lit (.int .u32 1996064986), .lit (.int .u32 2554220882), .lit (.int .u32 2821834349), .lit (.int .u32 2952996808), .lit (.int .u32 3210313671), .lit (.int .u32 3336571891), .lit (.int .u32 3584528711), .lit (.int .u32 113926993), .lit (.int .u32 338241895), .lit (.int .u32 666307205), .lit (.int .u32 773529912), .lit (.int .u32 1294757372), .lit (.int .u32 1396182291), .lit (.int .u32 1695183700), .lit (.int .u32 1986661051), .lit (.int .u32 2177026350), .lit (.int .u32 2456956037), .lit (.int .u32 2730485921), .lit (.int .u32 2820302411), .lit (.int .u32 3259730800), .lit (.int .u32 3345764771), .lit (.int .u32 3516065817), .lit (.int .u32 3600352804), .lit (.int .u32 4094571909), .lit (.int .u32 275423344), .lit (.int .u32 430227734), .lit (.int .u32 506948616), .lit (.int .u32 659060556), .lit (.int .u32 883997877), .lit (.int .u32 958139571), .lit (.int .u32 1322822218), .lit (.int .u32 1537002063), .lit (.int .u32 1747873779), .lit (.int .u32 1955562222), .lit (.int .u32 2024104815), .lit (.int .u32 2227730452), .lit (.int .u32 2361852424), .lit (.int .u32 2428436474), .lit (.int .u32 2756734187), .lit (.int .u32 3204031479), .lit (.int .u32 3329325298)]

/-- 'spigotlaw08.TokenNames': WHATEVER THE INPUT: true; the input reads as it did. -/
def tokenNamesSpec : ChangeSpec := { name := "tokenNames", fn := fun _ => fun
  | [] => { results := [.lit (.bool true)], args := [] }
  | _ => none }
def tokenNamesRow : OpenClaim := { program := "ytlbbedknldmcpaadoor", sum := "eef650c774e9f6683150183fde593a036c9b4abb827d42dfd799ff7e8ad9fe9a", func := "spigot/spigotlaw08.TokenNames", spec := "tokenNames", unfollowed := true, recurses := true, named := ["spigot/sha.firstWords", "spigot/sha.constants"], apart := false, laid := [("spigot/sha.firstWords", laid_spigot_sha_firstWords), ("spigot/sha.constants", laid_spigot_sha_constants)] }
def TokenNamesSaid : Prop := tokenNamesRow.holds Tryd.pinned (OpenSpec.ofChange tokenNamesSpec)

/-- ITS FALSE NEIGHBOUR: 'it returns false'. Refute it at one input. -/
def tokenNamesWrong : ChangeSpec := { name := "tokenNames", fn := fun _ => fun
  | [] => { results := [.lit (.bool false)], args := [] }
  | _ => none }
def TokenNamesWrongFalsely : Prop := tokenNamesRow.holds Tryd.pinned (OpenSpec.ofChange tokenNamesWrong)

/-- 'spigotlaw08.TokenMints': WHATEVER THE INPUT: true; the input reads as it did. -/
def tokenMintsSpec : ChangeSpec := { name := "tokenMints", fn := fun _ => fun
  | [d1, d2, d3] => { results := [.lit (.bool true)], args := [d1, d2, d3] }
  | _ => none }
def tokenMintsRow : OpenClaim := { program := "ytlbbedknldmcpaadoor", sum := "eef650c774e9f6683150183fde593a036c9b4abb827d42dfd799ff7e8ad9fe9a", func := "spigot/spigotlaw08.TokenMints", spec := "tokenMints", unfollowed := true, recurses := true, named := ["spigot/sha.firstWords", "spigot/sha.constants"], apart := false, laid := [("spigot/sha.firstWords", laid_spigot_sha_firstWords), ("spigot/sha.constants", laid_spigot_sha_constants)] }
def TokenMintsSaid : Prop := tokenMintsRow.holds Tryd.pinned (OpenSpec.ofChange tokenMintsSpec)

/-- ITS FALSE NEIGHBOUR: 'it returns false'. Refute it at one input. -/
def tokenMintsWrong : ChangeSpec := { name := "tokenMints", fn := fun _ => fun
  | [d1, d2, d3] => { results := [.lit (.bool false)], args := [d1, d2, d3] }
  | _ => none }
def TokenMintsWrongFalsely : Prop := tokenMintsRow.holds Tryd.pinned (OpenSpec.ofChange tokenMintsWrong)

/-- 'spigotlaw08.TokenTrue': WHATEVER THE INPUT: true; the input reads as it did. -/
def tokenTrueSpec : ChangeSpec := { name := "tokenTrue", fn := fun _ => fun
  | [d1, d2, d3] => { results := [.lit (.bool true)], args := [d1, d2, d3] }
  | _ => none }
def tokenTrueRow : OpenClaim := { program := "ytlbbedknldmcpaadoor", sum := "eef650c774e9f6683150183fde593a036c9b4abb827d42dfd799ff7e8ad9fe9a", func := "spigot/spigotlaw08.TokenTrue", spec := "tokenTrue", unfollowed := true, recurses := true, named := ["spigot/sha.firstWords", "spigot/sha.constants"], apart := false, laid := [("spigot/sha.firstWords", laid_spigot_sha_firstWords), ("spigot/sha.constants", laid_spigot_sha_constants)] }
def TokenTrueSaid : Prop := tokenTrueRow.holds Tryd.pinned (OpenSpec.ofChange tokenTrueSpec)

/-- ITS FALSE NEIGHBOUR: 'it returns false'. Refute it at one input. -/
def tokenTrueWrong : ChangeSpec := { name := "tokenTrue", fn := fun _ => fun
  | [d1, d2, d3] => { results := [.lit (.bool false)], args := [d1, d2, d3] }
  | _ => none }
def TokenTrueWrongFalsely : Prop := tokenTrueRow.holds Tryd.pinned (OpenSpec.ofChange tokenTrueWrong)

/-- 'spigotlaw08.TokenOther': WHATEVER THE INPUT: true; the input reads as it did. -/
def tokenOtherSpec : ChangeSpec := { name := "tokenOther", fn := fun _ => fun
  | [d1, d2, d3] => { results := [.lit (.bool true)], args := [d1, d2, d3] }
  | _ => none }
def tokenOtherRow : OpenClaim := { program := "ytlbbedknldmcpaadoor", sum := "eef650c774e9f6683150183fde593a036c9b4abb827d42dfd799ff7e8ad9fe9a", func := "spigot/spigotlaw08.TokenOther", spec := "tokenOther", unfollowed := true, recurses := true, named := ["spigot/sha.firstWords", "spigot/sha.constants"], apart := false, laid := [("spigot/sha.firstWords", laid_spigot_sha_firstWords), ("spigot/sha.constants", laid_spigot_sha_constants)] }
def TokenOtherSaid : Prop := tokenOtherRow.holds Tryd.pinned (OpenSpec.ofChange tokenOtherSpec)

/-- ITS FALSE NEIGHBOUR: 'it returns false'. Refute it at one input. -/
def tokenOtherWrong : ChangeSpec := { name := "tokenOther", fn := fun _ => fun
  | [d1, d2, d3] => { results := [.lit (.bool false)], args := [d1, d2, d3] }
  | _ => none }
def TokenOtherWrongFalsely : Prop := tokenOtherRow.holds Tryd.pinned (OpenSpec.ofChange tokenOtherWrong)

/-- 'spigotlaw08.TokenBack': WHATEVER THE INPUT: true; the input reads as it did. -/
def tokenBackSpec : ChangeSpec := { name := "tokenBack", fn := fun _ => fun
  | [d1, d2] => { results := [.lit (.bool true)], args := [d1, d2] }
  | _ => none }
def tokenBackRow : OpenClaim := { program := "ytlbbedknldmcpaadoor", sum := "eef650c774e9f6683150183fde593a036c9b4abb827d42dfd799ff7e8ad9fe9a", func := "spigot/spigotlaw08.TokenBack", spec := "tokenBack", unfollowed := true, recurses := true, named := ["spigot/sha.firstWords", "spigot/sha.constants"], apart := false, laid := [("spigot/sha.firstWords", laid_spigot_sha_firstWords), ("spigot/sha.constants", laid_spigot_sha_constants)] }
def TokenBackSaid : Prop := tokenBackRow.holds Tryd.pinned (OpenSpec.ofChange tokenBackSpec)

/-- ITS FALSE NEIGHBOUR: 'it returns false'. Refute it at one input. -/
def tokenBackWrong : ChangeSpec := { name := "tokenBack", fn := fun _ => fun
  | [d1, d2] => { results := [.lit (.bool false)], args := [d1, d2] }
  | _ => none }
def TokenBackWrongFalsely : Prop := tokenBackRow.holds Tryd.pinned (OpenSpec.ofChange tokenBackWrong)

/-- 'spigotlaw08.TokenLate': WHATEVER THE INPUT: true; the input reads as it did. -/
def tokenLateSpec : ChangeSpec := { name := "tokenLate", fn := fun _ => fun
  | [d1, d2, d3, d4] => { results := [.lit (.bool true)], args := [d1, d2, d3, d4] }
  | _ => none }
def tokenLateRow : OpenClaim := { program := "ytlbbedknldmcpaadoor", sum := "eef650c774e9f6683150183fde593a036c9b4abb827d42dfd799ff7e8ad9fe9a", func := "spigot/spigotlaw08.TokenLate", spec := "tokenLate", unfollowed := true, recurses := true, named := ["spigot/sha.firstWords", "spigot/sha.constants"], apart := false, laid := [("spigot/sha.firstWords", laid_spigot_sha_firstWords), ("spigot/sha.constants", laid_spigot_sha_constants)] }
def TokenLateSaid : Prop := tokenLateRow.holds Tryd.pinned (OpenSpec.ofChange tokenLateSpec)

/-- ITS FALSE NEIGHBOUR: 'it returns false'. Refute it at one input. -/
def tokenLateWrong : ChangeSpec := { name := "tokenLate", fn := fun _ => fun
  | [d1, d2, d3, d4] => { results := [.lit (.bool false)], args := [d1, d2, d3, d4] }
  | _ => none }
def TokenLateWrongFalsely : Prop := tokenLateRow.holds Tryd.pinned (OpenSpec.ofChange tokenLateWrong)

/- THE SECOND FORM. 'bulk': how many values and letters a reading holds, each counted each time it is reached (what is shared counts as often as it is met; a slice's spare places count too). A statement '..UptoSaid' is the law's where the arguments, and the package variables that the reading takes, are together of bulk at most 1048576: NARROWER than '..Said'. Prove '..Said' where nothing that the law and all that it calls make is longer than what came in: it says more and counts as full. Else prove '..UptoSaid'. A law counts once. -/
mutual
def uptoBulk {H : Type} : DataW H → Nat
  | .lit (.string bytes) => bytes.length + 1
  | .lit _ => 1
  | .nil => 1
  | .ptr d => uptoBulk d + 1
  | .slice elems spare => uptoBulkAll elems + uptoBulkAll spare + 1
  | .agg parts => uptoBulkAll parts + 1
  | .iface _ d => uptoBulk d + 1
  | .map entries => uptoBulkEntries entries + 1
  | .held _ => 1
def uptoBulkAll {H : Type} : List (DataW H) → Nat
  | [] => 0
  | d :: r => uptoBulk d + uptoBulkAll r
def uptoBulkEntries {H : Type} : List (Lit × DataW H) → Nat
  | [] => 0
  | x :: r => uptoBulkEntry x + uptoBulkEntries r
def uptoBulkEntry {H : Type} : Lit × DataW H → Nat
  | (.string bytes, d) => bytes.length + uptoBulk d + 1
  | (_, d) => uptoBulk d + 1
 end
def uptoSmall : (H : Type) → List (DataW H) → Bool := fun _ ds => decide (uptoBulkAll ds ≤ 1048576)
def OpenSpec.upto (s : _root_.Go.ChangeSpec) : _root_.Go.OpenSpec := { _root_.Go.OpenSpec.ofChange s with cond := some uptoSmall }

/-- 'spigotlaw08.TokenNames', WHERE WHAT IT READS IS OF BULK AT MOST 1048576: true; the input reads as it did. -/
def tokenNamesUptoRow : OpenClaim := { program := "ytlbbedknldmcpaadoor", sum := "eef650c774e9f6683150183fde593a036c9b4abb827d42dfd799ff7e8ad9fe9a", func := "spigot/spigotlaw08.TokenNames", spec := "tokenNames", unfollowed := true, recurses := true, named := ["spigot/sha.firstWords", "spigot/sha.constants"], apart := false, laid := [("spigot/sha.firstWords", laid_spigot_sha_firstWords), ("spigot/sha.constants", laid_spigot_sha_constants)], narrowed := true }
def TokenNamesUptoSaid : Prop := tokenNamesUptoRow.holds Tryd.pinned (OpenSpec.upto tokenNamesSpec)

/-- 'spigotlaw08.TokenMints', WHERE WHAT IT READS IS OF BULK AT MOST 1048576: true; the input reads as it did. -/
def tokenMintsUptoRow : OpenClaim := { program := "ytlbbedknldmcpaadoor", sum := "eef650c774e9f6683150183fde593a036c9b4abb827d42dfd799ff7e8ad9fe9a", func := "spigot/spigotlaw08.TokenMints", spec := "tokenMints", unfollowed := true, recurses := true, named := ["spigot/sha.firstWords", "spigot/sha.constants"], apart := false, laid := [("spigot/sha.firstWords", laid_spigot_sha_firstWords), ("spigot/sha.constants", laid_spigot_sha_constants)], narrowed := true }
def TokenMintsUptoSaid : Prop := tokenMintsUptoRow.holds Tryd.pinned (OpenSpec.upto tokenMintsSpec)

/-- 'spigotlaw08.TokenTrue', WHERE WHAT IT READS IS OF BULK AT MOST 1048576: true; the input reads as it did. -/
def tokenTrueUptoRow : OpenClaim := { program := "ytlbbedknldmcpaadoor", sum := "eef650c774e9f6683150183fde593a036c9b4abb827d42dfd799ff7e8ad9fe9a", func := "spigot/spigotlaw08.TokenTrue", spec := "tokenTrue", unfollowed := true, recurses := true, named := ["spigot/sha.firstWords", "spigot/sha.constants"], apart := false, laid := [("spigot/sha.firstWords", laid_spigot_sha_firstWords), ("spigot/sha.constants", laid_spigot_sha_constants)], narrowed := true }
def TokenTrueUptoSaid : Prop := tokenTrueUptoRow.holds Tryd.pinned (OpenSpec.upto tokenTrueSpec)

/-- 'spigotlaw08.TokenOther', WHERE WHAT IT READS IS OF BULK AT MOST 1048576: true; the input reads as it did. -/
def tokenOtherUptoRow : OpenClaim := { program := "ytlbbedknldmcpaadoor", sum := "eef650c774e9f6683150183fde593a036c9b4abb827d42dfd799ff7e8ad9fe9a", func := "spigot/spigotlaw08.TokenOther", spec := "tokenOther", unfollowed := true, recurses := true, named := ["spigot/sha.firstWords", "spigot/sha.constants"], apart := false, laid := [("spigot/sha.firstWords", laid_spigot_sha_firstWords), ("spigot/sha.constants", laid_spigot_sha_constants)], narrowed := true }
def TokenOtherUptoSaid : Prop := tokenOtherUptoRow.holds Tryd.pinned (OpenSpec.upto tokenOtherSpec)

/-- 'spigotlaw08.TokenBack', WHERE WHAT IT READS IS OF BULK AT MOST 1048576: true; the input reads as it did. -/
def tokenBackUptoRow : OpenClaim := { program := "ytlbbedknldmcpaadoor", sum := "eef650c774e9f6683150183fde593a036c9b4abb827d42dfd799ff7e8ad9fe9a", func := "spigot/spigotlaw08.TokenBack", spec := "tokenBack", unfollowed := true, recurses := true, named := ["spigot/sha.firstWords", "spigot/sha.constants"], apart := false, laid := [("spigot/sha.firstWords", laid_spigot_sha_firstWords), ("spigot/sha.constants", laid_spigot_sha_constants)], narrowed := true }
def TokenBackUptoSaid : Prop := tokenBackUptoRow.holds Tryd.pinned (OpenSpec.upto tokenBackSpec)

/-- 'spigotlaw08.TokenLate', WHERE WHAT IT READS IS OF BULK AT MOST 1048576: true; the input reads as it did. -/
def tokenLateUptoRow : OpenClaim := { program := "ytlbbedknldmcpaadoor", sum := "eef650c774e9f6683150183fde593a036c9b4abb827d42dfd799ff7e8ad9fe9a", func := "spigot/spigotlaw08.TokenLate", spec := "tokenLate", unfollowed := true, recurses := true, named := ["spigot/sha.firstWords", "spigot/sha.constants"], apart := false, laid := [("spigot/sha.firstWords", laid_spigot_sha_firstWords), ("spigot/sha.constants", laid_spigot_sha_constants)], narrowed := true }
def TokenLateUptoSaid : Prop := tokenLateUptoRow.holds Tryd.pinned (OpenSpec.upto tokenLateSpec)

end Rows
end Go.Proofs.YtlbbedknldmcpaaDoor
