/-
  DERIVED. GIVEN WITH THE SEED: THE CARDS: each row of YtfjajahniocbkaaDoorRows.lean that lists a variable, with what it lists TIED to the program's text (the seventh form; the later family's looks); each row that meets fmt, with fmt's text TOLD by the authors' own Lean function (tested against real Go, not proved from fmt's source: count such statements apart). THE CARD IS WHAT COUNTS. Prove the row's statement (the work); the ties are given (YtfjajahniocbkaaDoorTie.lean); close each card by the builder's one call (the guide's Derived/Test/ToyasCard.lean, 'card_holds'). Laid BY PROGRAM, IN A SANDBOX (cutbox-door.mjs). By AI agents, Wed Nov 11 2026. No macro, syntax, notation, axiom, sorry.
-/
import Derived.Test.YtfjajahniocbkaaDoorRows
import GoSem.ClaimSeven
namespace Go.Proofs.YtfjajahniocbkaaDoor
namespace Rows

/-- THE TIED CARD OF 'catenalaw03.SumPlays'. -/
def sumPlaysCard : Claim7 := { stood := { row := sumPlaysRow, standIns := [], harness := (true, "d2fabd4220fa20a1ab2414fab9522f3c34dd7ec392995b8f7fbc269e38c1d1e3"), looks := false }, kinds := [], alts := [], laidByText := true, laidKinds := [.data], laidTests := true, laidLooks := .later }
def SumPlaysCardSaid : Prop := Claim7.holds Tryd.pinned (.plain (OpenSpec.ofChange sumPlaysSpec)) sumPlaysCard

/-- THE TIED CARD OF 'catenalaw03.SumPieces'. -/
def sumPiecesCard : Claim7 := { stood := { row := sumPiecesRow, standIns := [], harness := (true, "d2fabd4220fa20a1ab2414fab9522f3c34dd7ec392995b8f7fbc269e38c1d1e3"), looks := false }, kinds := [], alts := [], laidByText := true, laidKinds := [.data], laidTests := true, laidLooks := .later }
def SumPiecesCardSaid : Prop := Claim7.holds Tryd.pinned (.plain (OpenSpec.ofChange sumPiecesSpec)) sumPiecesCard

/-- THE TIED CARD OF 'catenalaw03.SumBurst'. -/
def sumBurstCard : Claim7 := { stood := { row := sumBurstRow, standIns := [], harness := (true, "d2fabd4220fa20a1ab2414fab9522f3c34dd7ec392995b8f7fbc269e38c1d1e3"), looks := false }, kinds := [], alts := [], laidByText := true, laidKinds := [.data], laidTests := true, laidLooks := .later }
def SumBurstCardSaid : Prop := Claim7.holds Tryd.pinned (.plain (OpenSpec.ofChange sumBurstSpec)) sumBurstCard

/-- THE TIED CARD OF 'catenalaw03.SumThree'. -/
def sumThreeCard : Claim7 := { stood := { row := sumThreeRow, standIns := [], harness := (true, "d2fabd4220fa20a1ab2414fab9522f3c34dd7ec392995b8f7fbc269e38c1d1e3"), looks := false }, kinds := [], alts := [], laidByText := true, laidKinds := [.data], laidTests := true, laidLooks := .later }
def SumThreeCardSaid : Prop := Claim7.holds Tryd.pinned (.plain (OpenSpec.ofChange sumThreeSpec)) sumThreeCard

/-- THE TIED CARD OF 'catenalaw03.SumZero'. -/
def sumZeroCard : Claim7 := { stood := { row := sumZeroRow, standIns := [], harness := (true, "d2fabd4220fa20a1ab2414fab9522f3c34dd7ec392995b8f7fbc269e38c1d1e3"), looks := false }, kinds := [], alts := [], laidByText := true, laidKinds := [.data], laidTests := true, laidLooks := .later }
def SumZeroCardSaid : Prop := Claim7.holds Tryd.pinned (.plain (OpenSpec.ofChange sumZeroSpec)) sumZeroCard

/-- THE SECOND FORM's CARD OF 'catenalaw03.SumPlays'. -/
def sumPlaysUptoCard : Claim7 := { stood := { row := sumPlaysUptoRow, standIns := [], harness := (true, "d2fabd4220fa20a1ab2414fab9522f3c34dd7ec392995b8f7fbc269e38c1d1e3"), looks := false }, kinds := [], alts := [], laidByText := true, laidKinds := [.data], laidTests := true, laidLooks := .later }
def SumPlaysUptoCardSaid : Prop := Claim7.holds Tryd.pinned (.plain (OpenSpec.upto sumPlaysSpec)) sumPlaysUptoCard

/-- THE SECOND FORM's CARD OF 'catenalaw03.SumPieces'. -/
def sumPiecesUptoCard : Claim7 := { stood := { row := sumPiecesUptoRow, standIns := [], harness := (true, "d2fabd4220fa20a1ab2414fab9522f3c34dd7ec392995b8f7fbc269e38c1d1e3"), looks := false }, kinds := [], alts := [], laidByText := true, laidKinds := [.data], laidTests := true, laidLooks := .later }
def SumPiecesUptoCardSaid : Prop := Claim7.holds Tryd.pinned (.plain (OpenSpec.upto sumPiecesSpec)) sumPiecesUptoCard

/-- THE SECOND FORM's CARD OF 'catenalaw03.SumBurst'. -/
def sumBurstUptoCard : Claim7 := { stood := { row := sumBurstUptoRow, standIns := [], harness := (true, "d2fabd4220fa20a1ab2414fab9522f3c34dd7ec392995b8f7fbc269e38c1d1e3"), looks := false }, kinds := [], alts := [], laidByText := true, laidKinds := [.data], laidTests := true, laidLooks := .later }
def SumBurstUptoCardSaid : Prop := Claim7.holds Tryd.pinned (.plain (OpenSpec.upto sumBurstSpec)) sumBurstUptoCard

/-- THE SECOND FORM's CARD OF 'catenalaw03.SumThree'. -/
def sumThreeUptoCard : Claim7 := { stood := { row := sumThreeUptoRow, standIns := [], harness := (true, "d2fabd4220fa20a1ab2414fab9522f3c34dd7ec392995b8f7fbc269e38c1d1e3"), looks := false }, kinds := [], alts := [], laidByText := true, laidKinds := [.data], laidTests := true, laidLooks := .later }
def SumThreeUptoCardSaid : Prop := Claim7.holds Tryd.pinned (.plain (OpenSpec.upto sumThreeSpec)) sumThreeUptoCard

/-- THE SECOND FORM's CARD OF 'catenalaw03.SumZero'. -/
def sumZeroUptoCard : Claim7 := { stood := { row := sumZeroUptoRow, standIns := [], harness := (true, "d2fabd4220fa20a1ab2414fab9522f3c34dd7ec392995b8f7fbc269e38c1d1e3"), looks := false }, kinds := [], alts := [], laidByText := true, laidKinds := [.data], laidTests := true, laidLooks := .later }
def SumZeroUptoCardSaid : Prop := Claim7.holds Tryd.pinned (.plain (OpenSpec.upto sumZeroSpec)) sumZeroUptoCard
end Rows
end Go.Proofs.YtfjajahniocbkaaDoor
