/-
  DERIVED. GIVEN WITH THE SEED: THE CARDS: each row of YthggcmkmmfefdaaDoorRows.lean that lists a variable, with what it lists TIED to the program's text (the seventh form; the later family's looks); each row that meets fmt, with fmt's text TOLD by the authors' own Lean function (tested against real Go, not proved from fmt's source: count such statements apart). THE CARD IS WHAT COUNTS. Prove the row's statement (the work); the ties are given (YthggcmkmmfefdaaDoorTie.lean); close each card by the builder's one call (the guide's Derived/Test/ToyasCard.lean, 'card_holds'). Laid BY PROGRAM, IN A SANDBOX (cutbox-door.mjs). By AI agents, Wed Nov 11 2026. No macro, syntax, notation, axiom, sorry.
-/
import Derived.Test.YthggcmkmmfefdaaDoorRows
import GoSem.ClaimSeven
namespace Go.Proofs.YthggcmkmmfefdaaDoor
namespace Rows

/-- THE TIED CARD OF 'waybilllaw.MsgWrites'. -/
def msgWritesCard : Claim7 := { stood := { row := msgWritesRow, standIns := [], harness := (true, "8f418e2ff101b7843f42bea5699c45613d16e6c93b6016fc7928ea9e24b5d542"), looks := true }, kinds := [], alts := [], laidByText := true, laidKinds := [.data, .data, .data, .handle], laidTests := true, laidLooks := .later }
def MsgWritesCardSaid : Prop := Claim7.holds Tryd.pinned (.plain (OpenSpec.ofChange msgWritesSpec)) msgWritesCard

/-- THE TIED CARD OF 'waybillkeep.MsgBack'. -/
def msgBackCard : Claim7 := { stood := { row := msgBackRow, standIns := [], harness := (true, "8f418e2ff101b7843f42bea5699c45613d16e6c93b6016fc7928ea9e24b5d542"), looks := true }, kinds := [], alts := [], laidByText := true, laidKinds := [.data, .data, .data, .sentinel, .sentinel], laidTests := true, laidLooks := .later }
def MsgBackCardSaid : Prop := Claim7.holds Tryd.pinned (.plain (OpenSpec.ofChange msgBackSpec)) msgBackCard

/-- THE TIED CARD OF 'waybillkeep.NamesChains'. -/
def namesChainsCard : Claim7 := { stood := { row := namesChainsRow, standIns := [], harness := (true, "8f418e2ff101b7843f42bea5699c45613d16e6c93b6016fc7928ea9e24b5d542"), looks := true }, kinds := [], alts := [], laidByText := true, laidKinds := [.handle], laidTests := true, laidLooks := .later }
def NamesChainsCardSaid : Prop := Claim7.holds Tryd.pinned (.plain (OpenSpec.ofChange namesChainsSpec)) namesChainsCard

/-- THE TIED CARD OF 'waybilllaw.NamesPlay'. -/
def namesPlayCard : Claim7 := { stood := { row := namesPlayRow, standIns := [], harness := (true, "8f418e2ff101b7843f42bea5699c45613d16e6c93b6016fc7928ea9e24b5d542"), looks := true }, kinds := [], alts := [], laidByText := true, laidKinds := [.handle], laidTests := true, laidLooks := .later }
def NamesPlayCardSaid : Prop := Claim7.holds Tryd.pinned (.plain (OpenSpec.ofChange namesPlaySpec)) namesPlayCard

/-- THE TIED CARD OF 'waybilllaw.QueuePlays'. -/
def queuePlaysCard : Claim7 := { stood := { row := queuePlaysRow, standIns := [], harness := (true, "8f418e2ff101b7843f42bea5699c45613d16e6c93b6016fc7928ea9e24b5d542"), looks := true }, kinds := [], alts := [], laidByText := true, laidKinds := [.handle], laidTests := true, laidLooks := .later }
def QueuePlaysCardSaid : Prop := Claim7.holds Tryd.pinned (.plain (OpenSpec.ofChange queuePlaysSpec)) queuePlaysCard

/-- THE TIED CARD OF 'waybillkeep.QueueUnits'. -/
def queueUnitsCard : Claim7 := { stood := { row := queueUnitsRow, standIns := [], harness := (true, "8f418e2ff101b7843f42bea5699c45613d16e6c93b6016fc7928ea9e24b5d542"), looks := true }, kinds := [], alts := [], laidByText := true, laidKinds := [.handle], laidTests := true, laidLooks := .later }
def QueueUnitsCardSaid : Prop := Claim7.holds Tryd.pinned (.plain (OpenSpec.ofChange queueUnitsSpec)) queueUnitsCard

/-- THE SECOND FORM's CARD OF 'waybilllaw.MsgWrites'. -/
def msgWritesUptoCard : Claim7 := { stood := { row := msgWritesUptoRow, standIns := [], harness := (true, "8f418e2ff101b7843f42bea5699c45613d16e6c93b6016fc7928ea9e24b5d542"), looks := true }, kinds := [], alts := [], laidByText := true, laidKinds := [.data, .data, .data, .handle], laidTests := true, laidLooks := .later }
def MsgWritesUptoCardSaid : Prop := Claim7.holds Tryd.pinned (.plain (OpenSpec.upto msgWritesSpec)) msgWritesUptoCard

/-- THE SECOND FORM's CARD OF 'waybillkeep.MsgBack'. -/
def msgBackUptoCard : Claim7 := { stood := { row := msgBackUptoRow, standIns := [], harness := (true, "8f418e2ff101b7843f42bea5699c45613d16e6c93b6016fc7928ea9e24b5d542"), looks := true }, kinds := [], alts := [], laidByText := true, laidKinds := [.data, .data, .data, .sentinel, .sentinel], laidTests := true, laidLooks := .later }
def MsgBackUptoCardSaid : Prop := Claim7.holds Tryd.pinned (.plain (OpenSpec.upto msgBackSpec)) msgBackUptoCard

/-- THE SECOND FORM's CARD OF 'waybillkeep.NamesChains'. -/
def namesChainsUptoCard : Claim7 := { stood := { row := namesChainsUptoRow, standIns := [], harness := (true, "8f418e2ff101b7843f42bea5699c45613d16e6c93b6016fc7928ea9e24b5d542"), looks := true }, kinds := [], alts := [], laidByText := true, laidKinds := [.handle], laidTests := true, laidLooks := .later }
def NamesChainsUptoCardSaid : Prop := Claim7.holds Tryd.pinned (.plain (OpenSpec.upto namesChainsSpec)) namesChainsUptoCard

/-- THE SECOND FORM's CARD OF 'waybilllaw.NamesPlay'. -/
def namesPlayUptoCard : Claim7 := { stood := { row := namesPlayUptoRow, standIns := [], harness := (true, "8f418e2ff101b7843f42bea5699c45613d16e6c93b6016fc7928ea9e24b5d542"), looks := true }, kinds := [], alts := [], laidByText := true, laidKinds := [.handle], laidTests := true, laidLooks := .later }
def NamesPlayUptoCardSaid : Prop := Claim7.holds Tryd.pinned (.plain (OpenSpec.upto namesPlaySpec)) namesPlayUptoCard

/-- THE SECOND FORM's CARD OF 'waybilllaw.QueuePlays'. -/
def queuePlaysUptoCard : Claim7 := { stood := { row := queuePlaysUptoRow, standIns := [], harness := (true, "8f418e2ff101b7843f42bea5699c45613d16e6c93b6016fc7928ea9e24b5d542"), looks := true }, kinds := [], alts := [], laidByText := true, laidKinds := [.handle], laidTests := true, laidLooks := .later }
def QueuePlaysUptoCardSaid : Prop := Claim7.holds Tryd.pinned (.plain (OpenSpec.upto queuePlaysSpec)) queuePlaysUptoCard

/-- THE SECOND FORM's CARD OF 'waybillkeep.QueueUnits'. -/
def queueUnitsUptoCard : Claim7 := { stood := { row := queueUnitsUptoRow, standIns := [], harness := (true, "8f418e2ff101b7843f42bea5699c45613d16e6c93b6016fc7928ea9e24b5d542"), looks := true }, kinds := [], alts := [], laidByText := true, laidKinds := [.handle], laidTests := true, laidLooks := .later }
def QueueUnitsUptoCardSaid : Prop := Claim7.holds Tryd.pinned (.plain (OpenSpec.upto queueUnitsSpec)) queueUnitsUptoCard
end Rows
end Go.Proofs.YthggcmkmmfefdaaDoor
