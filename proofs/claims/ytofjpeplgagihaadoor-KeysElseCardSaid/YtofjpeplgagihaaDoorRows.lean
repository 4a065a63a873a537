/-
  NARROWER THAN 'FOR EVERY INPUT', by the rows' own cells (each row's printed sentence says how): KeysNames: laid · KeysMakes: laid · KeysSigns: laid · KeysMade: laid · KeysRight: laid · KeysElse: laid.
  DERIVED. THE GIVEN ROWS OF THIS SEAT. 6 by the template 'for every input the law returns true; each argument reads behind the call as it read before'; 0 by the template 'total and deterministic' (their statements: YtofjpeplgagihaaDoorTotals.lean).
  GIVEN WITH THE SEED: the statements are not yours to turn. If you find one false, say at which input.
  Laid BY PROGRAM, IN A SANDBOX (cutbox-rows.mjs): the forced cells as the released guide's own fill.sh prints them over the translation 76fa0d384e96da48… (all of the seat's roots in one cut). By AI agents, Wed Nov 11 2026. No macro, syntax, notation, axiom, sorry.
-/
import Derived.Test.YtofjpeplgagihaaDoorChecked
import GoSem.Claim
import GoSem.ClaimJoined
import GoSem.ClaimMapViews
import Derived.JoinedTies
import Derived.KernelRfl
namespace Go.Proofs.YtofjpeplgagihaaDoor
/- THE CELL 'sum', in the pinned program and in every row, IS THE sha256 OF THE DUMP (.gsa) THAT YtofjpeplgagihaaDoorProg.lean LOADS. Nothing in Lean hashes anything: it is a label: what it is worth is what the hold of that sum in a sandbox is worth. -/
noncomputable def Tryd.pinned : Pinned := { name := "ytofjpeplgagihaadoor", sum := "76fa0d384e96da488a531da786352ec77445404028d992916061be00d13d29bd", checked := Tryd.checked }
namespace Rows
def none {H : Type} : Left H := { results := [], args := [] }

/- WHAT THE LISTED PACKAGE-LEVEL VARIABLES READ AS WHEN THE CALL BEGINS. Each datum BY PROGRAM (the guide's laid-datum.mjs) off the statement by which the dump's own 'gosem.cut.vars' lays the variable. In a bare row this is a premise. The card (YtofjpeplgagihaaDoorCards.lean) ties it to the program's text. -/
def laid_spigot_sha_firstWords {H : Type} : DataW H := .agg [.lit (.int .u32 1779033703), .lit (.int .u32 3144134277), .lit (.int .u32 1013904242), .lit (.int .u32 2773480762), .lit (.int .u32 1359893119), .lit (.int .u32 2600822924), .lit (.int .u32 528734635), .lit (.int .u32 1541459225)]
def laid_spigot_sha_constants {H : Type} : DataW H := .agg [.lit (.int .u32 1116352408), .lit (.int .u32 1899447441), .lit (.int .u32 3049323471), .lit (.int .u32 3921009573), .lit (.int .u32 961987163), .lit (.int .u32 1508970993), .lit (.int .u32 2453635748), .lit (.int .u32 2870763221), .lit (.int .u32 3624381080), .lit (.int .u32 310598401), .lit (.int .u32 607225278), .lit (.int .u32 1426881987), .lit (.int .u32 1925078388), .lit (.int .u32 2162078206), .lit (.int .u32 2614888103), .lit (.int .u32 3248222580), .lit (.int .u32 3835390401), .lit (.int .u32 4022224774), .lit (.int .u32 264347078), .lit (.int .u32 604807628), .lit (.int .u32 770255983), .lit (.int .u32 1249150122), .lit (.int .u32 1555081692), .lit (.int .u32 1996064986), .lit (.int .u32 2554220882), .lit (.int .u32 2821834349), .lit (.int .u32 2952996808), .lit (.int .u32 3210313671), .lit (.int .u32 3336571891), .lit (.int .u32 3584528711), .lit (.int .u32 113926993), .lit (.int .u32 338241895), .lit (.int .u32 666307205), .lit (.int .u32 773529912), .lit (.int .u32 1294757372), .lit (.int .u32 1396182291), .lit (.int .u32 1695183700), .lit (.int .u32 1986661051), .lit (.int .u32 2177026350), .lit (.int .u32 2456956037), .lit (.int .u32 2730485921), .lit (.int .u32 2820302411), .lit (.int .u32 3259730800), .lit (.int .u32 3345764771), .lit (.int .u32 3516065817), .lit (.int .u32 3600352804), .lit (.int .u32 4094571909), .lit (.int .u32 275423344), .lit (.int .u32 430227734), .lit (.int .u32 506948616), .lit (.int .u32 659060556), .lit (.int .u32 883997877), .lit (.int .u32 958139571), .lit (.int .u32 1322822218), .lit (.int .u32 1537002063), .lit (.int .u32 1747873779), .lit (.int .u32 1955562222), .lit (.int .u32 2024104815), .lit (.int .u32 2227730452), .lit (.int .u32 2361852424), .lit (.int .u32 2428436474), .lit (.int .u32 2756734187), .lit (.int .u32 3204031479), .lit (.int .u32 3329325298)]

/-- 'spigotlaw11.KeysNames': WHATEVER THE INPUT: true; the input reads as it did. -/
def keysNamesSpec : ChangeSpec := { name := "keysNames", fn := fun _ => fun
  | [] => { results := [.lit (.bool true)], args := [] }
  | _ => none }
def keysNamesRow : OpenClaim := { program := "ytofjpeplgagihaadoor", sum := "76fa0d384e96da488a531da786352ec77445404028d992916061be00d13d29bd", func := "spigot/spigotlaw11.KeysNames", spec := "keysNames", unfollowed := true, recurses := true, named := ["spigot/sha.firstWords", "spigot/sha.constants"], apart := false, laid := [("spigot/sha.firstWords", laid_spigot_sha_firstWords), ("spigot/sha.constants", laid_spigot_sha_constants)] }
def KeysNamesSaid : Prop := keysNamesRow.holds Tryd.pinned (OpenSpec.ofChange keysNamesSpec)

/-- ITS FALSE NEIGHBOUR: 'it returns false'. Refute it at one input. -/
def keysNamesWrong : ChangeSpec := { name := "keysNames", fn := fun _ => fun
  | [] => { results := [.lit (.bool false)], args := [] }
  | _ => none }
def KeysNamesWrongFalsely : Prop := keysNamesRow.holds Tryd.pinned (OpenSpec.ofChange keysNamesWrong)

/-- 'spigotlaw11.KeysMakes': WHATEVER THE INPUT: true; the input reads as it did. -/
def keysMakesSpec : ChangeSpec := { name := "keysMakes", fn := fun _ => fun
  | [d1, d2, d3, d4, d5] => { results := [.lit (.bool true)], args := [d1, d2, d3, d4, d5] }
  | _ => none }
def keysMakesRow : OpenClaim := { program := "ytofjpeplgagihaadoor", sum := "76fa0d384e96da488a531da786352ec77445404028d992916061be00d13d29bd", func := "spigot/spigotlaw11.KeysMakes", spec := "keysMakes", unfollowed := true, recurses := true, named := ["spigot/sha.firstWords", "spigot/sha.constants"], apart := false, laid := [("spigot/sha.firstWords", laid_spigot_sha_firstWords), ("spigot/sha.constants", laid_spigot_sha_constants)] }
def KeysMakesSaid : Prop := keysMakesRow.holds Tryd.pinned (OpenSpec.ofChange keysMakesSpec)

/-- ITS FALSE NEIGHBOUR: 'it returns false'. Refute it at one input. -/
def keysMakesWrong : ChangeSpec := { name := "keysMakes", fn := fun _ => fun
  | [d1, d2, d3, d4, d5] => { results := [.lit (.bool false)], args := [d1, d2, d3, d4, d5] }
  | _ => none }
def KeysMakesWrongFalsely : Prop := keysMakesRow.holds Tryd.pinned (OpenSpec.ofChange keysMakesWrong)

/-- 'spigotlaw11.KeysSigns': WHATEVER THE INPUT: true; the input reads as it did. -/
def keysSignsSpec : ChangeSpec := { name := "keysSigns", fn := fun _ => fun
  | [d1, d2, d3] => { results := [.lit (.bool true)], args := [d1, d2, d3] }
  | _ => none }
def keysSignsRow : OpenClaim := { program := "ytofjpeplgagihaadoor", sum := "76fa0d384e96da488a531da786352ec77445404028d992916061be00d13d29bd", func := "spigot/spigotlaw11.KeysSigns", spec := "keysSigns", unfollowed := true, recurses := true, named := ["spigot/sha.firstWords", "spigot/sha.constants"], apart := false, laid := [("spigot/sha.firstWords", laid_spigot_sha_firstWords), ("spigot/sha.constants", laid_spigot_sha_constants)] }
def KeysSignsSaid : Prop := keysSignsRow.holds Tryd.pinned (OpenSpec.ofChange keysSignsSpec)

/-- ITS FALSE NEIGHBOUR: 'it returns false'. Refute it at one input. -/
def keysSignsWrong : ChangeSpec := { name := "keysSigns", fn := fun _ => fun
  | [d1, d2, d3] => { results := [.lit (.bool false)], args := [d1, d2, d3] }
  | _ => none }
def KeysSignsWrongFalsely : Prop := keysSignsRow.holds Tryd.pinned (OpenSpec.ofChange keysSignsWrong)

/-- 'spigotlaw11.KeysMade': WHATEVER THE INPUT: true; the input reads as it did. -/
def keysMadeSpec : ChangeSpec := { name := "keysMade", fn := fun _ => fun
  | [d1, d2, d3, d4, d5, d6] => { results := [.lit (.bool true)], args := [d1, d2, d3, d4, d5, d6] }
  | _ => none }
def keysMadeRow : OpenClaim := { program := "ytofjpeplgagihaadoor", sum := "76fa0d384e96da488a531da786352ec77445404028d992916061be00d13d29bd", func := "spigot/spigotlaw11.KeysMade", spec := "keysMade", unfollowed := true, recurses := true, named := ["spigot/sha.firstWords", "spigot/sha.constants"], apart := false, laid := [("spigot/sha.firstWords", laid_spigot_sha_firstWords), ("spigot/sha.constants", laid_spigot_sha_constants)] }
def KeysMadeSaid : Prop := keysMadeRow.holds Tryd.pinned (OpenSpec.ofChange keysMadeSpec)

/-- ITS FALSE NEIGHBOUR: 'it returns false'. Refute it at one input. -/
def keysMadeWrong : ChangeSpec := { name := "keysMade", fn := fun _ => fun
  | [d1, d2, d3, d4, d5, d6] => { results := [.lit (.bool false)], args := [d1, d2, d3, d4, d5, d6] }
  | _ => none }
def KeysMadeWrongFalsely : Prop := keysMadeRow.holds Tryd.pinned (OpenSpec.ofChange keysMadeWrong)

/-- 'spigotlaw11.KeysRight': WHATEVER THE INPUT: true; the input reads as it did. -/
def keysRightSpec : ChangeSpec := { name := "keysRight", fn := fun _ => fun
  | [d1, d2, d3] => { results := [.lit (.bool true)], args := [d1, d2, d3] }
  | _ => none }
def keysRightRow : OpenClaim := { program := "ytofjpeplgagihaadoor", sum := "76fa0d384e96da488a531da786352ec77445404028d992916061be00d13d29bd", func := "spigot/spigotlaw11.KeysRight", spec := "keysRight", unfollowed := true, recurses := true, named := ["spigot/sha.firstWords", "spigot/sha.constants"], apart := false, laid := [("spigot/sha.firstWords", laid_spigot_sha_firstWords), ("spigot/sha.constants", laid_spigot_sha_constants)] }
def KeysRightSaid : Prop := keysRightRow.holds Tryd.pinned (OpenSpec.ofChange keysRightSpec)

/-- ITS FALSE NEIGHBOUR: 'it returns false'. Refute it at one input. -/
def keysRightWrong : ChangeSpec := { name := "keysRight", fn := fun _ => fun
  | [d1, d2, d3] => { results := [.lit (.bool false)], args := [d1, d2, d3] }
  | _ => none }
def KeysRightWrongFalsely : Prop := keysRightRow.holds Tryd.pinned (OpenSpec.ofChange keysRightWrong)

/-- 'spigotlaw11.KeysElse': WHATEVER THE INPUT: true; the input reads as it did. -/
def keysElseSpec : ChangeSpec := { name := "keysElse", fn := fun _ => fun
  | [d1, d2, d3, d4] => { results := [.lit (.bool true)], args := [d1, d2, d3, d4] }
  | _ => none }
def keysElseRow : OpenClaim := { program := "ytofjpeplgagihaadoor", sum := "76fa0d384e96da488a531da786352ec77445404028d992916061be00d13d29bd", func := "spigot/spigotlaw11.KeysElse", spec := "keysElse", unfollowed := true, recurses := true, named := ["spigot/sha.firstWords", "spigot/sha.constants"], apart := false, laid := [("spigot/sha.firstWords", laid_spigot_sha_firstWords), ("spigot/sha.constants", laid_spigot_sha_constants)] }
def KeysElseSaid : Prop := keysElseRow.holds Tryd.pinned (OpenSpec.ofChange keysElseSpec)

/-- ITS FALSE NEIGHBOUR: 'it returns false'. Refute it at one input. -/
def keysElseWrong : ChangeSpec := { name := "keysElse", fn := fun _ => fun
  | [d1, d2, d3, d4] => { results := [.lit (.bool false)], args := [d1, d2, d3, d4] }
  | _ => none }
def KeysElseWrongFalsely : Prop := keysElseRow.holds Tryd.pinned (OpenSpec.ofChange keysElseWrong)

/- THE SECOND FORM. 'bulk': how many values and letters a reading holds, each counted each time it is reached (what is shared counts as often as it is met; a slice's spare places count too). A statement '..UptoSaid' is the law's where the arguments, and the package variables that the reading takes, are together of bulk at most 1048576: NARROWER than '..Said'. Prove '..Said' where nothing that the law and all that it calls make is longer than what came in: it says more and counts as full. Else prove '..UptoSaid'. A law counts once. -/
mutual
def uptoBulk {H : Type} : DataW H → Nat
  | .lit (.string bytes) => bytes.length + 1
  | .lit _ => 1
  | .nil => 1
  | .ptr d => uptoBulk d + 1
  | .slice elems spare => uptoBulkAll elems + uptoBulkAll spare + 1
  | .agg parts => uptoBulkAll parts + 1
  | .iface _ d => uptoBulk d + 1
  | .map entries => uptoBulkEntries entries + 1
  | .held _ => 1
def uptoBulkAll {H : Type} : List (DataW H) → Nat
  | [] => 0
  | d :: r => uptoBulk d + uptoBulkAll r
def uptoBulkEntries {H : Type} : List (Lit × DataW H) → Nat
  | [] => 0
  | x :: r => uptoBulkEntry x + uptoBulkEntries r
def uptoBulkEntry {H : Type} : Lit × DataW H → Nat
  | (.string bytes, d) => bytes.length + uptoBulk d + 1
  | (_, d) => uptoBulk d + 1
 end
def uptoSmall : (H : Type) → List (DataW H) → Bool := fun _ ds => decide (uptoBulkAll ds ≤ 1048576)
def OpenSpec.upto (s : _root_.Go.ChangeSpec) : _root_.Go.OpenSpec := { _root_.Go.OpenSpec.ofChange s with cond := some uptoSmall }

/-- 'spigotlaw11.KeysNames', WHERE WHAT IT READS IS OF BULK AT MOST 1048576: true; the input reads as it did. -/
def keysNamesUptoRow : OpenClaim := { program := "ytofjpeplgagihaadoor", sum := "76fa0d384e96da488a531da786352ec77445404028d992916061be00d13d29bd", func := "spigot/spigotlaw11.KeysNames", spec := "keysNames", unfollowed := true, recurses := true, named := ["spigot/sha.firstWords", "spigot/sha.constants"], apart := false, laid := [("spigot/sha.firstWords", laid_spigot_sha_firstWords), ("spigot/sha.constants", laid_spigot_sha_constants)], narrowed := true }
def KeysNamesUptoSaid : Prop := keysNamesUptoRow.holds Tryd.pinned (OpenSpec.upto keysNamesSpec)

/-- 'spigotlaw11.KeysMakes', WHERE WHAT IT READS IS OF BULK AT MOST 1048576: true; the input reads as it did. -/
def keysMakesUptoRow : OpenClaim := { program := "ytofjpeplgagihaadoor", sum := "76fa0d384e96da488a531da786352ec77445404028d992916061be00d13d29bd", func := "spigot/spigotlaw11.KeysMakes", spec := "keysMakes", unfollowed := true, recurses := true, named := ["spigot/sha.firstWords", "spigot/sha.constants"], apart := false, laid := [("spigot/sha.firstWords", laid_spigot_sha_firstWords), ("spigot/sha.constants", laid_spigot_sha_constants)], narrowed := true }
def KeysMakesUptoSaid : Prop := keysMakesUptoRow.holds Tryd.pinned (OpenSpec.upto keysMakesSpec)

/-- 'spigotlaw11.KeysSigns', WHERE WHAT IT READS IS OF BULK AT MOST 1048576: true; the input reads as it did. -/
def keysSignsUptoRow : OpenClaim := { program := "ytofjpeplgagihaadoor", sum := "76fa0d384e96da488a531da786352ec77445404028d992916061be00d13d29bd", func := "spigot/spigotlaw11.KeysSigns", spec := "keysSigns", unfollowed := true, recurses := true, named := ["spigot/sha.firstWords", "spigot/sha.constants"], apart := false, laid := [("spigot/sha.firstWords", laid_spigot_sha_firstWords), ("spigot/sha.constants", laid_spigot_sha_constants)], narrowed := true }
def KeysSignsUptoSaid : Prop := keysSignsUptoRow.holds Tryd.pinned (OpenSpec.upto keysSignsSpec)

/-- 'spigotlaw11.KeysMade', WHERE WHAT IT READS IS OF BULK AT MOST 1048576: true; the input reads as it did. -/
def keysMadeUptoRow : OpenClaim := { program := "ytofjpeplgagihaadoor", sum := "76fa0d384e96da488a531da786352ec77445404028d992916061be00d13d29bd", func := "spigot/spigotlaw11.KeysMade", spec := "keysMade", unfollowed := true, recurses := true, named := ["spigot/sha.firstWords", "spigot/sha.constants"], apart := false, laid := [("spigot/sha.firstWords", laid_spigot_sha_firstWords), ("spigot/sha.constants", laid_spigot_sha_constants)], narrowed := true }
def KeysMadeUptoSaid : Prop := keysMadeUptoRow.holds Tryd.pinned (OpenSpec.upto keysMadeSpec)

/-- 'spigotlaw11.KeysRight', WHERE WHAT IT READS IS OF BULK AT MOST 1048576: true; the input reads as it did. -/
def keysRightUptoRow : OpenClaim := { program := "ytofjpeplgagihaadoor", sum := "76fa0d384e96da488a531da786352ec77445404028d992916061be00d13d29bd", func := "spigot/spigotlaw11.KeysRight", spec := "keysRight", unfollowed := true, recurses := true, named := ["spigot/sha.firstWords", "spigot/sha.constants"], apart := false, laid := [("spigot/sha.firstWords", laid_spigot_sha_firstWords), ("spigot/sha.constants", laid_spigot_sha_constants)], narrowed := true }
def KeysRightUptoSaid : Prop := keysRightUptoRow.holds Tryd.pinned (OpenSpec.upto keysRightSpec)

/-- 'spigotlaw11.KeysElse', WHERE WHAT IT READS IS OF BULK AT MOST 1048576: true; the input reads as it did. -/
def keysElseUptoRow : OpenClaim := { program := "ytofjpeplgagihaadoor", sum := "76fa0d384e96da488a531da786352ec77445404028d992916061be00d13d29bd", func := "spigot/spigotlaw11.KeysElse", spec := "keysElse", unfollowed := true, recurses := true, named := ["spigot/sha.firstWords", "spigot/sha.constants"], apart := false, laid := [("spigot/sha.firstWords", laid_spigot_sha_firstWords), ("spigot/sha.constants", laid_spigot_sha_constants)], narrowed := true }
def KeysElseUptoSaid : Prop := keysElseUptoRow.holds Tryd.pinned (OpenSpec.upto keysElseSpec)

end Rows
end Go.Proofs.YtofjpeplgagihaaDoor
