/-
  DERIVED. GIVEN WITH THE SEED: THE CARDS: each row of YthaplabbjopkiaaDoorRows.lean that lists a variable, with what it lists TIED to the program's text (the seventh form; the later family's looks); each row that meets fmt, with fmt's text TOLD by the authors' own Lean function (tested against real Go, not proved from fmt's source: count such statements apart). THE CARD IS WHAT COUNTS. Prove the row's statement (the work); the ties are given (YthaplabbjopkiaaDoorTie.lean); close each card by the builder's one call (the guide's Derived/Test/ToyasCard.lean, 'card_holds'). Laid BY PROGRAM, IN A SANDBOX (cutbox-door.mjs). By AI agents, Wed Nov 11 2026. No macro, syntax, notation, axiom, sorry.
-/
import Derived.Test.YthaplabbjopkiaaDoorRows
import GoSem.ClaimSeven
namespace Go.Proofs.YthaplabbjopkiaaDoor
namespace Rows

/-- THE TIED CARD OF 'waybilllaw.MsgWrites'. -/
def msgWritesCard : Claim7 := { stood := { row := msgWritesRow, standIns := [], harness := (true, "dbed5834b8799d6e05997e919fcb084d3604d56703425db752cf267a53b6f896"), looks := true }, kinds := [], alts := [], laidByText := true, laidKinds := [.data, .data, .data, .handle], laidTests := true, laidLooks := .later }
def MsgWritesCardSaid : Prop := Claim7.holds Tryd.pinned (.plain (OpenSpec.ofChange msgWritesSpec)) msgWritesCard

/-- THE TIED CARD OF 'waybillkeep.MsgBack'. -/
def msgBackCard : Claim7 := { stood := { row := msgBackRow, standIns := [], harness := (true, "dbed5834b8799d6e05997e919fcb084d3604d56703425db752cf267a53b6f896"), looks := true }, kinds := [], alts := [], laidByText := true, laidKinds := [.data, .data, .data, .sentinel, .sentinel], laidTests := true, laidLooks := .later }
def MsgBackCardSaid : Prop := Claim7.holds Tryd.pinned (.plain (OpenSpec.ofChange msgBackSpec)) msgBackCard

/-- THE TIED CARD OF 'waybillkeep.NamesChains'. -/
def namesChainsCard : Claim7 := { stood := { row := namesChainsRow, standIns := [], harness := (true, "dbed5834b8799d6e05997e919fcb084d3604d56703425db752cf267a53b6f896"), looks := true }, kinds := [], alts := [], laidByText := true, laidKinds := [.handle], laidTests := true, laidLooks := .later }
def NamesChainsCardSaid : Prop := Claim7.holds Tryd.pinned (.plain (OpenSpec.ofChange namesChainsSpec)) namesChainsCard

/-- THE TIED CARD OF 'waybilllaw.NamesPlay'. -/
def namesPlayCard : Claim7 := { stood := { row := namesPlayRow, standIns := [], harness := (true, "dbed5834b8799d6e05997e919fcb084d3604d56703425db752cf267a53b6f896"), looks := true }, kinds := [], alts := [], laidByText := true, laidKinds := [.handle], laidTests := true, laidLooks := .later }
def NamesPlayCardSaid : Prop := Claim7.holds Tryd.pinned (.plain (OpenSpec.ofChange namesPlaySpec)) namesPlayCard

/-- THE TIED CARD OF 'waybilllaw.QueuePlays'. -/
def queuePlaysCard : Claim7 := { stood := { row := queuePlaysRow, standIns := [], harness := (true, "dbed5834b8799d6e05997e919fcb084d3604d56703425db752cf267a53b6f896"), looks := true }, kinds := [], alts := [], laidByText := true, laidKinds := [.handle], laidTests := true, laidLooks := .later }
def QueuePlaysCardSaid : Prop := Claim7.holds Tryd.pinned (.plain (OpenSpec.ofChange queuePlaysSpec)) queuePlaysCard

/-- THE TIED CARD OF 'waybillkeep.QueueUnits'. -/
def queueUnitsCard : Claim7 := { stood := { row := queueUnitsRow, standIns := [], harness := (true, "dbed5834b8799d6e05997e919fcb084d3604d56703425db752cf267a53b6f896"), looks := true }, kinds := [], alts := [], laidByText := true, laidKinds := [.handle], laidTests := true, laidLooks := .later }
def QueueUnitsCardSaid : Prop := Claim7.holds Tryd.pinned (.plain (OpenSpec.ofChange queueUnitsSpec)) queueUnitsCard

/-- THE TIED CARD OF 'waybilllaw.FrameWrites'. -/
def frameWritesCard : Claim7 := { stood := { row := frameWritesRow, standIns := [], harness := (true, "dbed5834b8799d6e05997e919fcb084d3604d56703425db752cf267a53b6f896"), looks := true }, kinds := [], alts := [], laidByText := true, laidKinds := [.data, .data, .data, .handle], laidTests := true, laidLooks := .later }
def FrameWritesCardSaid : Prop := Claim7.holds Tryd.pinned (.plain (OpenSpec.ofChange frameWritesSpec)) frameWritesCard

/-- THE TIED CARD OF 'waybillkeep.FrameBack'. -/
def frameBackCard : Claim7 := { stood := { row := frameBackRow, standIns := [], harness := (true, "dbed5834b8799d6e05997e919fcb084d3604d56703425db752cf267a53b6f896"), looks := true }, kinds := [], alts := [], laidByText := true, laidKinds := [.data, .data, .data, .data, .sentinel, .sentinel, .pinned], laidTests := true, laidLooks := .later }
def FrameBackCardSaid : Prop := Claim7.holds Tryd.pinned (.plain (OpenSpec.ofChange frameBackSpec)) frameBackCard

/-- THE SECOND FORM's CARD OF 'waybilllaw.MsgWrites'. -/
def msgWritesUptoCard : Claim7 := { stood := { row := msgWritesUptoRow, standIns := [], harness := (true, "dbed5834b8799d6e05997e919fcb084d3604d56703425db752cf267a53b6f896"), looks := true }, kinds := [], alts := [], laidByText := true, laidKinds := [.data, .data, .data, .handle], laidTests := true, laidLooks := .later }
def MsgWritesUptoCardSaid : Prop := Claim7.holds Tryd.pinned (.plain (OpenSpec.upto msgWritesSpec)) msgWritesUptoCard

/-- THE SECOND FORM's CARD OF 'waybillkeep.MsgBack'. -/
def msgBackUptoCard : Claim7 := { stood := { row := msgBackUptoRow, standIns := [], harness := (true, "dbed5834b8799d6e05997e919fcb084d3604d56703425db752cf267a53b6f896"), looks := true }, kinds := [], alts := [], laidByText := true, laidKinds := [.data, .data, .data, .sentinel, .sentinel], laidTests := true, laidLooks := .later }
def MsgBackUptoCardSaid : Prop := Claim7.holds Tryd.pinned (.plain (OpenSpec.upto msgBackSpec)) msgBackUptoCard

/-- THE SECOND FORM's CARD OF 'waybillkeep.NamesChains'. -/
def namesChainsUptoCard : Claim7 := { stood := { row := namesChainsUptoRow, standIns := [], harness := (true, "dbed5834b8799d6e05997e919fcb084d3604d56703425db752cf267a53b6f896"), looks := true }, kinds := [], alts := [], laidByText := true, laidKinds := [.handle], laidTests := true, laidLooks := .later }
def NamesChainsUptoCardSaid : Prop := Claim7.holds Tryd.pinned (.plain (OpenSpec.upto namesChainsSpec)) namesChainsUptoCard

/-- THE SECOND FORM's CARD OF 'waybilllaw.NamesPlay'. -/
def namesPlayUptoCard : Claim7 := { stood := { row := namesPlayUptoRow, standIns := [], harness := (true, "dbed5834b8799d6e05997e919fcb084d3604d56703425db752cf267a53b6f896"), looks := true }, kinds := [], alts := [], laidByText := true, laidKinds := [.handle], laidTests := true, laidLooks := .later }
def NamesPlayUptoCardSaid : Prop := Claim7.holds Tryd.pinned (.plain (OpenSpec.upto namesPlaySpec)) namesPlayUptoCard

/-- THE SECOND FORM's CARD OF 'waybilllaw.QueuePlays'. -/
def queuePlaysUptoCard : Claim7 := { stood := { row := queuePlaysUptoRow, standIns := [], harness := (true, "dbed5834b8799d6e05997e919fcb084d3604d56703425db752cf267a53b6f896"), looks := true }, kinds := [], alts := [], laidByText := true, laidKinds := [.handle], laidTests := true, laidLooks := .later }
def QueuePlaysUptoCardSaid : Prop := Claim7.holds Tryd.pinned (.plain (OpenSpec.upto queuePlaysSpec)) queuePlaysUptoCard

/-- THE SECOND FORM's CARD OF 'waybillkeep.QueueUnits'. -/
def queueUnitsUptoCard : Claim7 := { stood := { row := queueUnitsUptoRow, standIns := [], harness := (true, "dbed5834b8799d6e05997e919fcb084d3604d56703425db752cf267a53b6f896"), looks := true }, kinds := [], alts := [], laidByText := true, laidKinds := [.handle], laidTests := true, laidLooks := .later }
def QueueUnitsUptoCardSaid : Prop := Claim7.holds Tryd.pinned (.plain (OpenSpec.upto queueUnitsSpec)) queueUnitsUptoCard

/-- THE SECOND FORM's CARD OF 'waybilllaw.FrameWrites'. -/
def frameWritesUptoCard : Claim7 := { stood := { row := frameWritesUptoRow, standIns := [], harness := (true, "dbed5834b8799d6e05997e919fcb084d3604d56703425db752cf267a53b6f896"), looks := true }, kinds := [], alts := [], laidByText := true, laidKinds := [.data, .data, .data, .handle], laidTests := true, laidLooks := .later }
def FrameWritesUptoCardSaid : Prop := Claim7.holds Tryd.pinned (.plain (OpenSpec.upto frameWritesSpec)) frameWritesUptoCard

/-- THE SECOND FORM's CARD OF 'waybillkeep.FrameBack'. -/
def frameBackUptoCard : Claim7 := { stood := { row := frameBackUptoRow, standIns := [], harness := (true, "dbed5834b8799d6e05997e919fcb084d3604d56703425db752cf267a53b6f896"), looks := true }, kinds := [], alts := [], laidByText := true, laidKinds := [.data, .data, .data, .data, .sentinel, .sentinel, .pinned], laidTests := true, laidLooks := .later }
def FrameBackUptoCardSaid : Prop := Claim7.holds Tryd.pinned (.plain (OpenSpec.upto frameBackSpec)) frameBackUptoCard
end Rows
end Go.Proofs.YthaplabbjopkiaaDoor
