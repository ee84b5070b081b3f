/-
  DERIVED. GIVEN WITH THE SEED: THE CARDS: each row of YtkabgmdjfiidhaaGreatDoorRows.lean that lists a variable, with what it lists TIED to the program's text (the seventh form; the later family's looks); each row that meets fmt, with fmt's text TOLD by the authors' own Lean function (tested against real Go, not proved from fmt's source: count such statements apart). THE CARD IS WHAT COUNTS. Prove the row's statement (the work); the ties are given (YtkabgmdjfiidhaaGreatDoorTie.lean); close each card by the builder's one call (the guide's Derived/Test/ToyasCard.lean, 'card_holds'). Laid BY PROGRAM, IN A SANDBOX (cutbox-door.mjs). By AI agents, Wed Nov 11 2026. No macro, syntax, notation, axiom, sorry.
-/
import Derived.Test.YtkabgmdjfiidhaaGreatDoorRows
import GoSem.ClaimSeven
namespace Go.Proofs.YtkabgmdjfiidhaaGreatDoor
namespace Rows

/-- THE TIED CARD OF 'waybilllaw.MsgReads'. -/
def msgReadsCard : Claim7 := { stood := { row := msgReadsRow, standIns := [], harness := (true, "0bbd6075070e3f57ef2edd6340f62175bf8fbdd5ea6dd2352cbbb56a888e3076"), looks := true }, kinds := [], alts := [], laidByText := true, laidKinds := [.data, .data, .data, .data, .handle, .sentinel, .sentinel, .pinned], laidTests := true, laidLooks := .later }
def MsgReadsCardSaid : Prop := Claim7.holds Tryz.pinned (.plain (OpenSpec.ofChange msgReadsSpec)) msgReadsCard

/-- THE TIED CARD OF 'waybilllaw.HousePlays'. -/
def housePlaysCard : Claim7 := { stood := { row := housePlaysRow, standIns := [], harness := (true, "0bbd6075070e3f57ef2edd6340f62175bf8fbdd5ea6dd2352cbbb56a888e3076"), looks := true }, kinds := [], alts := [], laidByText := true, laidKinds := [.data, .data, .data, .handle, .sentinel, .sentinel, .listed, .data], laidTests := true, laidLooks := .later }
def HousePlaysCardSaid : Prop := Claim7.holds Tryz.pinned (.plain (OpenSpec.ofChange housePlaysSpec)) housePlaysCard

/-- THE TIED CARD OF 'waybillkeep.HouseCrashes'. -/
def houseCrashesCard : Claim7 := { stood := { row := houseCrashesRow, standIns := [], harness := (true, "0bbd6075070e3f57ef2edd6340f62175bf8fbdd5ea6dd2352cbbb56a888e3076"), looks := true }, kinds := [], alts := [], laidByText := true, laidKinds := [.data, .data, .data, .sentinel, .sentinel, .listed, .data, .data], laidTests := true, laidLooks := .later }
def HouseCrashesCardSaid : Prop := Claim7.holds Tryz.pinned (.plain (OpenSpec.ofChange houseCrashesSpec)) houseCrashesCard

/-- THE SECOND FORM's CARD OF 'waybilllaw.MsgReads'. -/
def msgReadsUptoCard : Claim7 := { stood := { row := msgReadsUptoRow, standIns := [], harness := (true, "0bbd6075070e3f57ef2edd6340f62175bf8fbdd5ea6dd2352cbbb56a888e3076"), looks := true }, kinds := [], alts := [], laidByText := true, laidKinds := [.data, .data, .data, .data, .handle, .sentinel, .sentinel, .pinned], laidTests := true, laidLooks := .later }
def MsgReadsUptoCardSaid : Prop := Claim7.holds Tryz.pinned (.plain (OpenSpec.upto msgReadsSpec)) msgReadsUptoCard

/-- THE SECOND FORM's CARD OF 'waybilllaw.HousePlays'. -/
def housePlaysUptoCard : Claim7 := { stood := { row := housePlaysUptoRow, standIns := [], harness := (true, "0bbd6075070e3f57ef2edd6340f62175bf8fbdd5ea6dd2352cbbb56a888e3076"), looks := true }, kinds := [], alts := [], laidByText := true, laidKinds := [.data, .data, .data, .handle, .sentinel, .sentinel, .listed, .data], laidTests := true, laidLooks := .later }
def HousePlaysUptoCardSaid : Prop := Claim7.holds Tryz.pinned (.plain (OpenSpec.upto housePlaysSpec)) housePlaysUptoCard

/-- THE SECOND FORM's CARD OF 'waybillkeep.HouseCrashes'. -/
def houseCrashesUptoCard : Claim7 := { stood := { row := houseCrashesUptoRow, standIns := [], harness := (true, "0bbd6075070e3f57ef2edd6340f62175bf8fbdd5ea6dd2352cbbb56a888e3076"), looks := true }, kinds := [], alts := [], laidByText := true, laidKinds := [.data, .data, .data, .sentinel, .sentinel, .listed, .data, .data], laidTests := true, laidLooks := .later }
def HouseCrashesUptoCardSaid : Prop := Claim7.holds Tryz.pinned (.plain (OpenSpec.upto houseCrashesSpec)) houseCrashesUptoCard
end Rows
end Go.Proofs.YtkabgmdjfiidhaaGreatDoor
