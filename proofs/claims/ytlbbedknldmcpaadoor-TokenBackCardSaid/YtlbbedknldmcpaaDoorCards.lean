/-
  DERIVED. GIVEN WITH THE SEED: THE CARDS: each row of YtlbbedknldmcpaaDoorRows.lean that lists a variable, with what it lists TIED to the program's text (the seventh form; the later family's looks); each row that meets fmt, with fmt's text TOLD by the authors' own Lean function (tested against real Go, not proved from fmt's source: count such statements apart). THE CARD IS WHAT COUNTS. Prove the row's statement (the work); the ties are given (YtlbbedknldmcpaaDoorTie.lean); close each card by the builder's one call (the guide's Derived/Test/ToyasCard.lean, 'card_holds'). Laid BY PROGRAM, IN A SANDBOX (cutbox-door.mjs). By AI agents, Wed Nov 11 2026. No macro, syntax, notation, axiom, sorry.
-/
import Derived.Test.YtlbbedknldmcpaaDoorRows
import GoSem.ClaimSeven
namespace Go.Proofs.YtlbbedknldmcpaaDoor
namespace Rows

/-- THE TIED CARD OF 'spigotlaw08.TokenNames'. -/
def tokenNamesCard : Claim7 := { stood := { row := tokenNamesRow, standIns := [], harness := (true, "02115c1d2dc1d5c5c42d48496767b69b3fa1115f0340acb5a27d4bd6d1ee7a65"), looks := false }, kinds := [], alts := [], laidByText := true, laidKinds := [.data, .data], laidTests := true, laidLooks := .later }
def TokenNamesCardSaid : Prop := Claim7.holds Tryd.pinned (.plain (OpenSpec.ofChange tokenNamesSpec)) tokenNamesCard

/-- THE TIED CARD OF 'spigotlaw08.TokenMints'. -/
def tokenMintsCard : Claim7 := { stood := { row := tokenMintsRow, standIns := [], harness := (true, "02115c1d2dc1d5c5c42d48496767b69b3fa1115f0340acb5a27d4bd6d1ee7a65"), looks := false }, kinds := [], alts := [], laidByText := true, laidKinds := [.data, .data], laidTests := true, laidLooks := .later }
def TokenMintsCardSaid : Prop := Claim7.holds Tryd.pinned (.plain (OpenSpec.ofChange tokenMintsSpec)) tokenMintsCard

/-- THE TIED CARD OF 'spigotlaw08.TokenTrue'. -/
def tokenTrueCard : Claim7 := { stood := { row := tokenTrueRow, standIns := [], harness := (true, "02115c1d2dc1d5c5c42d48496767b69b3fa1115f0340acb5a27d4bd6d1ee7a65"), looks := false }, kinds := [], alts := [], laidByText := true, laidKinds := [.data, .data], laidTests := true, laidLooks := .later }
def TokenTrueCardSaid : Prop := Claim7.holds Tryd.pinned (.plain (OpenSpec.ofChange tokenTrueSpec)) tokenTrueCard

/-- THE TIED CARD OF 'spigotlaw08.TokenOther'. -/
def tokenOtherCard : Claim7 := { stood := { row := tokenOtherRow, standIns := [], harness := (true, "02115c1d2dc1d5c5c42d48496767b69b3fa1115f0340acb5a27d4bd6d1ee7a65"), looks := false }, kinds := [], alts := [], laidByText := true, laidKinds := [.data, .data], laidTests := true, laidLooks := .later }
def TokenOtherCardSaid : Prop := Claim7.holds Tryd.pinned (.plain (OpenSpec.ofChange tokenOtherSpec)) tokenOtherCard

/-- THE TIED CARD OF 'spigotlaw08.TokenBack'. -/
def tokenBackCard : Claim7 := { stood := { row := tokenBackRow, standIns := [], harness := (true, "02115c1d2dc1d5c5c42d48496767b69b3fa1115f0340acb5a27d4bd6d1ee7a65"), looks := false }, kinds := [], alts := [], laidByText := true, laidKinds := [.data, .data], laidTests := true, laidLooks := .later }
def TokenBackCardSaid : Prop := Claim7.holds Tryd.pinned (.plain (OpenSpec.ofChange tokenBackSpec)) tokenBackCard

/-- THE TIED CARD OF 'spigotlaw08.TokenLate'. -/
def tokenLateCard : Claim7 := { stood := { row := tokenLateRow, standIns := [], harness := (true, "02115c1d2dc1d5c5c42d48496767b69b3fa1115f0340acb5a27d4bd6d1ee7a65"), looks := false }, kinds := [], alts := [], laidByText := true, laidKinds := [.data, .data], laidTests := true, laidLooks := .later }
def TokenLateCardSaid : Prop := Claim7.holds Tryd.pinned (.plain (OpenSpec.ofChange tokenLateSpec)) tokenLateCard

/-- THE SECOND FORM's CARD OF 'spigotlaw08.TokenNames'. -/
def tokenNamesUptoCard : Claim7 := { stood := { row := tokenNamesUptoRow, standIns := [], harness := (true, "02115c1d2dc1d5c5c42d48496767b69b3fa1115f0340acb5a27d4bd6d1ee7a65"), looks := false }, kinds := [], alts := [], laidByText := true, laidKinds := [.data, .data], laidTests := true, laidLooks := .later }
def TokenNamesUptoCardSaid : Prop := Claim7.holds Tryd.pinned (.plain (OpenSpec.upto tokenNamesSpec)) tokenNamesUptoCard

/-- THE SECOND FORM's CARD OF 'spigotlaw08.TokenMints'. -/
def tokenMintsUptoCard : Claim7 := { stood := { row := tokenMintsUptoRow, standIns := [], harness := (true, "02115c1d2dc1d5c5c42d48496767b69b3fa1115f0340acb5a27d4bd6d1ee7a65"), looks := false }, kinds := [], alts := [], laidByText := true, laidKinds := [.data, .data], laidTests := true, laidLooks := .later }
def TokenMintsUptoCardSaid : Prop := Claim7.holds Tryd.pinned (.plain (OpenSpec.upto tokenMintsSpec)) tokenMintsUptoCard

/-- THE SECOND FORM's CARD OF 'spigotlaw08.TokenTrue'. -/
def tokenTrueUptoCard : Claim7 := { stood := { row := tokenTrueUptoRow, standIns := [], harness := (true, "02115c1d2dc1d5c5c42d48496767b69b3fa1115f0340acb5a27d4bd6d1ee7a65"), looks := false }, kinds := [], alts := [], laidByText := true, laidKinds := [.data, .data], laidTests := true, laidLooks := .later }
def TokenTrueUptoCardSaid : Prop := Claim7.holds Tryd.pinned (.plain (OpenSpec.upto tokenTrueSpec)) tokenTrueUptoCard

/-- THE SECOND FORM's CARD OF 'spigotlaw08.TokenOther'. -/
def tokenOtherUptoCard : Claim7 := { stood := { row := tokenOtherUptoRow, standIns := [], harness := (true, "02115c1d2dc1d5c5c42d48496767b69b3fa1115f0340acb5a27d4bd6d1ee7a65"), looks := false }, kinds := [], alts := [], laidByText := true, laidKinds := [.data, .data], laidTests := true, laidLooks := .later }
def TokenOtherUptoCardSaid : Prop := Claim7.holds Tryd.pinned (.plain (OpenSpec.upto tokenOtherSpec)) tokenOtherUptoCard

/-- THE SECOND FORM's CARD OF 'spigotlaw08.TokenBack'. -/
def tokenBackUptoCard : Claim7 := { stood := { row := tokenBackUptoRow, standIns := [], harness := (true, "02115c1d2dc1d5c5c42d48496767b69b3fa1115f0340acb5a27d4bd6d1ee7a65"), looks := false }, kinds := [], alts := [], laidByText := true, laidKinds := [.data, .data], laidTests := true, laidLooks := .later }
def TokenBackUptoCardSaid : Prop := Claim7.holds Tryd.pinned (.plain (OpenSpec.upto tokenBackSpec)) tokenBackUptoCard

/-- THE SECOND FORM's CARD OF 'spigotlaw08.TokenLate'. -/
def tokenLateUptoCard : Claim7 := { stood := { row := tokenLateUptoRow, standIns := [], harness := (true, "02115c1d2dc1d5c5c42d48496767b69b3fa1115f0340acb5a27d4bd6d1ee7a65"), looks := false }, kinds := [], alts := [], laidByText := true, laidKinds := [.data, .data], laidTests := true, laidLooks := .later }
def TokenLateUptoCardSaid : Prop := Claim7.holds Tryd.pinned (.plain (OpenSpec.upto tokenLateSpec)) tokenLateUptoCard
end Rows
end Go.Proofs.YtlbbedknldmcpaaDoor
