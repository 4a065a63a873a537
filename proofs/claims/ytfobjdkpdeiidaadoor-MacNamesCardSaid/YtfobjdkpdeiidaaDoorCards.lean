/-
  DERIVED. GIVEN WITH THE SEED: THE CARDS: each row of YtfobjdkpdeiidaaDoorRows.lean that lists a variable, with what it lists TIED to the program's text (the seventh form; the later family's looks); each row that meets fmt, with fmt's text TOLD by the authors' own Lean function (tested against real Go, not proved from fmt's source: count such statements apart). THE CARD IS WHAT COUNTS. Prove the row's statement (the work); the ties are given (YtfobjdkpdeiidaaDoorTie.lean); close each card by the builder's one call (the guide's Derived/Test/ToyasCard.lean, 'card_holds'). Laid BY PROGRAM, IN A SANDBOX (cutbox-door.mjs). By AI agents, Wed Nov 11 2026. No macro, syntax, notation, axiom, sorry.
-/
import Derived.Test.YtfobjdkpdeiidaaDoorRows
import GoSem.ClaimSeven
namespace Go.Proofs.YtfobjdkpdeiidaaDoor
namespace Rows

/-- THE TIED CARD OF 'spigotlaw06.MacNames'. -/
def macNamesCard : Claim7 := { stood := { row := macNamesRow, standIns := [], harness := (true, "e74a8cad460f72757439cd7ea2b853f10c8c9dd27bd5a94f22c8832d7da5cdb4"), looks := false }, kinds := [], alts := [], laidByText := true, laidKinds := [.data, .data], laidTests := true, laidLooks := .later }
def MacNamesCardSaid : Prop := Claim7.holds Tryd.pinned (.plain (OpenSpec.ofChange macNamesSpec)) macNamesCard

/-- THE TIED CARD OF 'spigotlaw06.MacSums'. -/
def macSumsCard : Claim7 := { stood := { row := macSumsRow, standIns := [], harness := (true, "e74a8cad460f72757439cd7ea2b853f10c8c9dd27bd5a94f22c8832d7da5cdb4"), looks := false }, kinds := [], alts := [], laidByText := true, laidKinds := [.data, .data], laidTests := true, laidLooks := .later }
def MacSumsCardSaid : Prop := Claim7.holds Tryd.pinned (.plain (OpenSpec.ofChange macSumsSpec)) macSumsCard

/-- THE TIED CARD OF 'spigotlaw06.MacMade'. -/
def macMadeCard : Claim7 := { stood := { row := macMadeRow, standIns := [], harness := (true, "e74a8cad460f72757439cd7ea2b853f10c8c9dd27bd5a94f22c8832d7da5cdb4"), looks := false }, kinds := [], alts := [], laidByText := true, laidKinds := [.data, .data], laidTests := true, laidLooks := .later }
def MacMadeCardSaid : Prop := Claim7.holds Tryd.pinned (.plain (OpenSpec.ofChange macMadeSpec)) macMadeCard

/-- THE TIED CARD OF 'spigotlaw06.MacKeys'. -/
def macKeysCard : Claim7 := { stood := { row := macKeysRow, standIns := [], harness := (true, "e74a8cad460f72757439cd7ea2b853f10c8c9dd27bd5a94f22c8832d7da5cdb4"), looks := false }, kinds := [], alts := [], laidByText := true, laidKinds := [.data, .data], laidTests := true, laidLooks := .later }
def MacKeysCardSaid : Prop := Claim7.holds Tryd.pinned (.plain (OpenSpec.ofChange macKeysSpec)) macKeysCard

/-- THE TIED CARD OF 'spigotlaw06.MacLooks'. -/
def macLooksCard : Claim7 := { stood := { row := macLooksRow, standIns := [], harness := (true, "e74a8cad460f72757439cd7ea2b853f10c8c9dd27bd5a94f22c8832d7da5cdb4"), looks := false }, kinds := [], alts := [], laidByText := true, laidKinds := [.data, .data], laidTests := true, laidLooks := .later }
def MacLooksCardSaid : Prop := Claim7.holds Tryd.pinned (.plain (OpenSpec.ofChange macLooksSpec)) macLooksCard

/-- THE SECOND FORM's CARD OF 'spigotlaw06.MacNames'. -/
def macNamesUptoCard : Claim7 := { stood := { row := macNamesUptoRow, standIns := [], harness := (true, "e74a8cad460f72757439cd7ea2b853f10c8c9dd27bd5a94f22c8832d7da5cdb4"), looks := false }, kinds := [], alts := [], laidByText := true, laidKinds := [.data, .data], laidTests := true, laidLooks := .later }
def MacNamesUptoCardSaid : Prop := Claim7.holds Tryd.pinned (.plain (OpenSpec.upto macNamesSpec)) macNamesUptoCard

/-- THE SECOND FORM's CARD OF 'spigotlaw06.MacSums'. -/
def macSumsUptoCard : Claim7 := { stood := { row := macSumsUptoRow, standIns := [], harness := (true, "e74a8cad460f72757439cd7ea2b853f10c8c9dd27bd5a94f22c8832d7da5cdb4"), looks := false }, kinds := [], alts := [], laidByText := true, laidKinds := [.data, .data], laidTests := true, laidLooks := .later }
def MacSumsUptoCardSaid : Prop := Claim7.holds Tryd.pinned (.plain (OpenSpec.upto macSumsSpec)) macSumsUptoCard

/-- THE SECOND FORM's CARD OF 'spigotlaw06.MacMade'. -/
def macMadeUptoCard : Claim7 := { stood := { row := macMadeUptoRow, standIns := [], harness := (true, "e74a8cad460f72757439cd7ea2b853f10c8c9dd27bd5a94f22c8832d7da5cdb4"), looks := false }, kinds := [], alts := [], laidByText := true, laidKinds := [.data, .data], laidTests := true, laidLooks := .later }
def MacMadeUptoCardSaid : Prop := Claim7.holds Tryd.pinned (.plain (OpenSpec.upto macMadeSpec)) macMadeUptoCard

/-- THE SECOND FORM's CARD OF 'spigotlaw06.MacKeys'. -/
def macKeysUptoCard : Claim7 := { stood := { row := macKeysUptoRow, standIns := [], harness := (true, "e74a8cad460f72757439cd7ea2b853f10c8c9dd27bd5a94f22c8832d7da5cdb4"), looks := false }, kinds := [], alts := [], laidByText := true, laidKinds := [.data, .data], laidTests := true, laidLooks := .later }
def MacKeysUptoCardSaid : Prop := Claim7.holds Tryd.pinned (.plain (OpenSpec.upto macKeysSpec)) macKeysUptoCard

/-- THE SECOND FORM's CARD OF 'spigotlaw06.MacLooks'. -/
def macLooksUptoCard : Claim7 := { stood := { row := macLooksUptoRow, standIns := [], harness := (true, "e74a8cad460f72757439cd7ea2b853f10c8c9dd27bd5a94f22c8832d7da5cdb4"), looks := false }, kinds := [], alts := [], laidByText := true, laidKinds := [.data, .data], laidTests := true, laidLooks := .later }
def MacLooksUptoCardSaid : Prop := Claim7.holds Tryd.pinned (.plain (OpenSpec.upto macLooksSpec)) macLooksUptoCard
end Rows
end Go.Proofs.YtfobjdkpdeiidaaDoor
