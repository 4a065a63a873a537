/-
  DERIVED. GIVEN WITH THE SEED: THE CARDS: each row of YtofjpeplgagihaaDoorRows.lean that lists a variable, with what it lists TIED to the program's text (the seventh form; the later family's looks); each row that meets fmt, with fmt's text TOLD by the authors' own Lean function (tested against real Go, not proved from fmt's source: count such statements apart). THE CARD IS WHAT COUNTS. Prove the row's statement (the work); the ties are given (YtofjpeplgagihaaDoorTie.lean); close each card by the builder's one call (the guide's Derived/Test/ToyasCard.lean, 'card_holds'). Laid BY PROGRAM, IN A SANDBOX (cutbox-door.mjs). By AI agents, Wed Nov 11 2026. No macro, syntax, notation, axiom, sorry.
-/
import Derived.Test.YtofjpeplgagihaaDoorRows
import GoSem.ClaimSeven
namespace Go.Proofs.YtofjpeplgagihaaDoor
namespace Rows

/-- THE TIED CARD OF 'spigotlaw11.KeysNames'. -/
def keysNamesCard : Claim7 := { stood := { row := keysNamesRow, standIns := [], harness := (true, "6c86146d8fbe2e2de6e388effb79d2ffaf0a9b6dbd718479cb9250308ea1b2e7"), looks := false }, kinds := [], alts := [], laidByText := true, laidKinds := [.data, .data], laidTests := true, laidLooks := .later }
def KeysNamesCardSaid : Prop := Claim7.holds Tryd.pinned (.plain (OpenSpec.ofChange keysNamesSpec)) keysNamesCard

/-- THE TIED CARD OF 'spigotlaw11.KeysMakes'. -/
def keysMakesCard : Claim7 := { stood := { row := keysMakesRow, standIns := [], harness := (true, "6c86146d8fbe2e2de6e388effb79d2ffaf0a9b6dbd718479cb9250308ea1b2e7"), looks := false }, kinds := [], alts := [], laidByText := true, laidKinds := [.data, .data], laidTests := true, laidLooks := .later }
def KeysMakesCardSaid : Prop := Claim7.holds Tryd.pinned (.plain (OpenSpec.ofChange keysMakesSpec)) keysMakesCard

/-- THE TIED CARD OF 'spigotlaw11.KeysSigns'. -/
def keysSignsCard : Claim7 := { stood := { row := keysSignsRow, standIns := [], harness := (true, "6c86146d8fbe2e2de6e388effb79d2ffaf0a9b6dbd718479cb9250308ea1b2e7"), looks := false }, kinds := [], alts := [], laidByText := true, laidKinds := [.data, .data], laidTests := true, laidLooks := .later }
def KeysSignsCardSaid : Prop := Claim7.holds Tryd.pinned (.plain (OpenSpec.ofChange keysSignsSpec)) keysSignsCard

/-- THE TIED CARD OF 'spigotlaw11.KeysMade'. -/
def keysMadeCard : Claim7 := { stood := { row := keysMadeRow, standIns := [], harness := (true, "6c86146d8fbe2e2de6e388effb79d2ffaf0a9b6dbd718479cb9250308ea1b2e7"), looks := false }, kinds := [], alts := [], laidByText := true, laidKinds := [.data, .data], laidTests := true, laidLooks := .later }
def KeysMadeCardSaid : Prop := Claim7.holds Tryd.pinned (.plain (OpenSpec.ofChange keysMadeSpec)) keysMadeCard

/-- THE TIED CARD OF 'spigotlaw11.KeysRight'. -/
def keysRightCard : Claim7 := { stood := { row := keysRightRow, standIns := [], harness := (true, "6c86146d8fbe2e2de6e388effb79d2ffaf0a9b6dbd718479cb9250308ea1b2e7"), looks := false }, kinds := [], alts := [], laidByText := true, laidKinds := [.data, .data], laidTests := true, laidLooks := .later }
def KeysRightCardSaid : Prop := Claim7.holds Tryd.pinned (.plain (OpenSpec.ofChange keysRightSpec)) keysRightCard

/-- THE TIED CARD OF 'spigotlaw11.KeysElse'. -/
def keysElseCard : Claim7 := { stood := { row := keysElseRow, standIns := [], harness := (true, "6c86146d8fbe2e2de6e388effb79d2ffaf0a9b6dbd718479cb9250308ea1b2e7"), looks := false }, kinds := [], alts := [], laidByText := true, laidKinds := [.data, .data], laidTests := true, laidLooks := .later }
def KeysElseCardSaid : Prop := Claim7.holds Tryd.pinned (.plain (OpenSpec.ofChange keysElseSpec)) keysElseCard

/-- THE SECOND FORM's CARD OF 'spigotlaw11.KeysNames'. -/
def keysNamesUptoCard : Claim7 := { stood := { row := keysNamesUptoRow, standIns := [], harness := (true, "6c86146d8fbe2e2de6e388effb79d2ffaf0a9b6dbd718479cb9250308ea1b2e7"), looks := false }, kinds := [], alts := [], laidByText := true, laidKinds := [.data, .data], laidTests := true, laidLooks := .later }
def KeysNamesUptoCardSaid : Prop := Claim7.holds Tryd.pinned (.plain (OpenSpec.upto keysNamesSpec)) keysNamesUptoCard

/-- THE SECOND FORM's CARD OF 'spigotlaw11.KeysMakes'. -/
def keysMakesUptoCard : Claim7 := { stood := { row := keysMakesUptoRow, standIns := [], harness := (true, "6c86146d8fbe2e2de6e388effb79d2ffaf0a9b6dbd718479cb9250308ea1b2e7"), looks := false }, kinds := [], alts := [], laidByText := true, laidKinds := [.data, .data], laidTests := true, laidLooks := .later }
def KeysMakesUptoCardSaid : Prop := Claim7.holds Tryd.pinned (.plain (OpenSpec.upto keysMakesSpec)) keysMakesUptoCard

/-- THE SECOND FORM's CARD OF 'spigotlaw11.KeysSigns'. -/
def keysSignsUptoCard : Claim7 := { stood := { row := keysSignsUptoRow, standIns := [], harness := (true, "6c86146d8fbe2e2de6e388effb79d2ffaf0a9b6dbd718479cb9250308ea1b2e7"), looks := false }, kinds := [], alts := [], laidByText := true, laidKinds := [.data, .data], laidTests := true, laidLooks := .later }
def KeysSignsUptoCardSaid : Prop := Claim7.holds Tryd.pinned (.plain (OpenSpec.upto keysSignsSpec)) keysSignsUptoCard

/-- THE SECOND FORM's CARD OF 'spigotlaw11.KeysMade'. -/
def keysMadeUptoCard : Claim7 := { stood := { row := keysMadeUptoRow, standIns := [], harness := (true, "6c86146d8fbe2e2de6e388effb79d2ffaf0a9b6dbd718479cb9250308ea1b2e7"), looks := false }, kinds := [], alts := [], laidByText := true, laidKinds := [.data, .data], laidTests := true, laidLooks := .later }
def KeysMadeUptoCardSaid : Prop := Claim7.holds Tryd.pinned (.plain (OpenSpec.upto keysMadeSpec)) keysMadeUptoCard

/-- THE SECOND FORM's CARD OF 'spigotlaw11.KeysRight'. -/
def keysRightUptoCard : Claim7 := { stood := { row := keysRightUptoRow, standIns := [], harness := (true, "6c86146d8fbe2e2de6e388effb79d2ffaf0a9b6dbd718479cb9250308ea1b2e7"), looks := false }, kinds := [], alts := [], laidByText := true, laidKinds := [.data, .data], laidTests := true, laidLooks := .later }
def KeysRightUptoCardSaid : Prop := Claim7.holds Tryd.pinned (.plain (OpenSpec.upto keysRightSpec)) keysRightUptoCard

/-- THE SECOND FORM's CARD OF 'spigotlaw11.KeysElse'. -/
def keysElseUptoCard : Claim7 := { stood := { row := keysElseUptoRow, standIns := [], harness := (true, "6c86146d8fbe2e2de6e388effb79d2ffaf0a9b6dbd718479cb9250308ea1b2e7"), looks := false }, kinds := [], alts := [], laidByText := true, laidKinds := [.data, .data], laidTests := true, laidLooks := .later }
def KeysElseUptoCardSaid : Prop := Claim7.holds Tryd.pinned (.plain (OpenSpec.upto keysElseSpec)) keysElseUptoCard
end Rows
end Go.Proofs.YtofjpeplgagihaaDoor
