/-
  DERIVED. GIVEN WITH THE SEED: THE CARDS: each row of YtfiplhnplmadmaaDoorRows.lean that lists a variable, with what it lists TIED to the program's text (the seventh form; the later family's looks); each row that meets fmt, with fmt's text TOLD by the authors' own Lean function (tested against real Go, not proved from fmt's source: count such statements apart). THE CARD IS WHAT COUNTS. Prove the row's statement (the work); the ties are given (YtfiplhnplmadmaaDoorTie.lean); close each card by the builder's one call (the guide's Derived/Test/ToyasCard.lean, 'card_holds'). Laid BY PROGRAM, IN A SANDBOX (cutbox-door.mjs). By AI agents, Wed Nov 11 2026. No macro, syntax, notation, axiom, sorry.
-/
import Derived.Test.YtfiplhnplmadmaaDoorRows
import GoSem.ClaimSeven
namespace Go.Proofs.YtfiplhnplmadmaaDoor
namespace Rows

/-- THE TIED CARD OF 'catenalaw12.WalKeeps'. -/
def walKeepsCard : Claim7 := { stood := { row := walKeepsRow, standIns := [], harness := (true, "8bb9ff56212c86ffe35d86136b822c744b16d7fe8cd3eccd6a91faf3e4f96642"), looks := true }, kinds := [], alts := [], laidByText := true, laidKinds := [.data], laidTests := true, laidLooks := .later }
def WalKeepsCardSaid : Prop := Claim7.holds Tryd.pinned (.plain (OpenSpec.ofChange walKeepsSpec)) walKeepsCard

/-- THE TIED CARD OF 'catenalaw12.WalZero'. -/
def walZeroCard : Claim7 := { stood := { row := walZeroRow, standIns := [], harness := (true, "8bb9ff56212c86ffe35d86136b822c744b16d7fe8cd3eccd6a91faf3e4f96642"), looks := true }, kinds := [], alts := [], laidByText := true, laidKinds := [.data], laidTests := true, laidLooks := .later }
def WalZeroCardSaid : Prop := Claim7.holds Tryd.pinned (.plain (OpenSpec.ofChange walZeroSpec)) walZeroCard

/-- THE TIED CARD OF 'catenalaw13.PointKeeps'. -/
def pointKeepsCard : Claim7 := { stood := { row := pointKeepsRow, standIns := [], harness := (true, "8bb9ff56212c86ffe35d86136b822c744b16d7fe8cd3eccd6a91faf3e4f96642"), looks := true }, kinds := [], alts := [], laidByText := true, laidKinds := [.data], laidTests := true, laidLooks := .later }
def PointKeepsCardSaid : Prop := Claim7.holds Tryd.pinned (.plain (OpenSpec.ofChange pointKeepsSpec)) pointKeepsCard

/-- THE TIED CARD OF 'catenalaw13.PointTorn'. -/
def pointTornCard : Claim7 := { stood := { row := pointTornRow, standIns := [], harness := (true, "8bb9ff56212c86ffe35d86136b822c744b16d7fe8cd3eccd6a91faf3e4f96642"), looks := true }, kinds := [], alts := [], laidByText := true, laidKinds := [.data], laidTests := true, laidLooks := .later }
def PointTornCardSaid : Prop := Claim7.holds Tryd.pinned (.plain (OpenSpec.ofChange pointTornSpec)) pointTornCard

/-- THE TIED CARD OF 'catenalaw13.PointZero'. -/
def pointZeroCard : Claim7 := { stood := { row := pointZeroRow, standIns := [], harness := (true, "8bb9ff56212c86ffe35d86136b822c744b16d7fe8cd3eccd6a91faf3e4f96642"), looks := true }, kinds := [], alts := [], laidByText := true, laidKinds := [.data], laidTests := true, laidLooks := .later }
def PointZeroCardSaid : Prop := Claim7.holds Tryd.pinned (.plain (OpenSpec.ofChange pointZeroSpec)) pointZeroCard

/-- THE SECOND FORM's CARD OF 'catenalaw12.WalKeeps'. -/
def walKeepsUptoCard : Claim7 := { stood := { row := walKeepsUptoRow, standIns := [], harness := (true, "8bb9ff56212c86ffe35d86136b822c744b16d7fe8cd3eccd6a91faf3e4f96642"), looks := true }, kinds := [], alts := [], laidByText := true, laidKinds := [.data], laidTests := true, laidLooks := .later }
def WalKeepsUptoCardSaid : Prop := Claim7.holds Tryd.pinned (.plain (OpenSpec.upto walKeepsSpec)) walKeepsUptoCard

/-- THE SECOND FORM's CARD OF 'catenalaw12.WalZero'. -/
def walZeroUptoCard : Claim7 := { stood := { row := walZeroUptoRow, standIns := [], harness := (true, "8bb9ff56212c86ffe35d86136b822c744b16d7fe8cd3eccd6a91faf3e4f96642"), looks := true }, kinds := [], alts := [], laidByText := true, laidKinds := [.data], laidTests := true, laidLooks := .later }
def WalZeroUptoCardSaid : Prop := Claim7.holds Tryd.pinned (.plain (OpenSpec.upto walZeroSpec)) walZeroUptoCard

/-- THE SECOND FORM's CARD OF 'catenalaw13.PointKeeps'. -/
def pointKeepsUptoCard : Claim7 := { stood := { row := pointKeepsUptoRow, standIns := [], harness := (true, "8bb9ff56212c86ffe35d86136b822c744b16d7fe8cd3eccd6a91faf3e4f96642"), looks := true }, kinds := [], alts := [], laidByText := true, laidKinds := [.data], laidTests := true, laidLooks := .later }
def PointKeepsUptoCardSaid : Prop := Claim7.holds Tryd.pinned (.plain (OpenSpec.upto pointKeepsSpec)) pointKeepsUptoCard

/-- THE SECOND FORM's CARD OF 'catenalaw13.PointTorn'. -/
def pointTornUptoCard : Claim7 := { stood := { row := pointTornUptoRow, standIns := [], harness := (true, "8bb9ff56212c86ffe35d86136b822c744b16d7fe8cd3eccd6a91faf3e4f96642"), looks := true }, kinds := [], alts := [], laidByText := true, laidKinds := [.data], laidTests := true, laidLooks := .later }
def PointTornUptoCardSaid : Prop := Claim7.holds Tryd.pinned (.plain (OpenSpec.upto pointTornSpec)) pointTornUptoCard

/-- THE SECOND FORM's CARD OF 'catenalaw13.PointZero'. -/
def pointZeroUptoCard : Claim7 := { stood := { row := pointZeroUptoRow, standIns := [], harness := (true, "8bb9ff56212c86ffe35d86136b822c744b16d7fe8cd3eccd6a91faf3e4f96642"), looks := true }, kinds := [], alts := [], laidByText := true, laidKinds := [.data], laidTests := true, laidLooks := .later }
def PointZeroUptoCardSaid : Prop := Claim7.holds Tryd.pinned (.plain (OpenSpec.upto pointZeroSpec)) pointZeroUptoCard
end Rows
end Go.Proofs.YtfiplhnplmadmaaDoor
