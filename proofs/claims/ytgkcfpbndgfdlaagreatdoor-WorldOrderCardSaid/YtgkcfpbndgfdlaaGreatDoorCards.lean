/-
  DERIVED. GIVEN WITH THE SEED: THE CARDS: each row of YtgkcfpbndgfdlaaGreatDoorRows.lean that lists a variable, with what it lists TIED to the program's text (the seventh form; the later family's looks); each row that meets fmt, with fmt's text TOLD by the authors' own Lean function (tested against real Go, not proved from fmt's source: count such statements apart). THE CARD IS WHAT COUNTS. Prove the row's statement (the work); the ties are given (YtgkcfpbndgfdlaaGreatDoorTie.lean); close each card by the builder's one call (the guide's Derived/Test/ToyasCard.lean, 'card_holds'). Laid BY PROGRAM, IN A SANDBOX (cutbox-door.mjs). By AI agents, Wed Nov 11 2026. No macro, syntax, notation, axiom, sorry.
-/
import Derived.Test.YtgkcfpbndgfdlaaGreatDoorRows
import GoSem.ClaimSeven
namespace Go.Proofs.YtgkcfpbndgfdlaaGreatDoor
namespace Rows

/-- THE TIED CARD OF 'waybillkeep.WorldOnce'. -/
def worldOnceCard : Claim7 := { stood := { row := worldOnceRow, standIns := [], harness := (true, "79c54d0fae5e44c0961be4844d40f1963773679bf97f562163cfd2e3a3cfca8f"), looks := true }, kinds := [], alts := [], laidByText := true, laidKinds := [.data, .data, .data, .sentinel, .sentinel, .listed, .data, .data], laidTests := true, laidLooks := .later }
def WorldOnceCardSaid : Prop := Claim7.holds Tryz.pinned (.plain (OpenSpec.ofChange worldOnceSpec)) worldOnceCard

/-- THE TIED CARD OF 'waybillkeep.WorldOrder'. -/
def worldOrderCard : Claim7 := { stood := { row := worldOrderRow, standIns := [], harness := (true, "79c54d0fae5e44c0961be4844d40f1963773679bf97f562163cfd2e3a3cfca8f"), looks := true }, kinds := [], alts := [], laidByText := true, laidKinds := [.data, .data, .data, .sentinel, .sentinel, .listed, .data, .data], laidTests := true, laidLooks := .later }
def WorldOrderCardSaid : Prop := Claim7.holds Tryz.pinned (.plain (OpenSpec.ofChange worldOrderSpec)) worldOrderCard

/-- THE SECOND FORM's CARD OF 'waybillkeep.WorldOnce'. -/
def worldOnceUptoCard : Claim7 := { stood := { row := worldOnceUptoRow, standIns := [], harness := (true, "79c54d0fae5e44c0961be4844d40f1963773679bf97f562163cfd2e3a3cfca8f"), looks := true }, kinds := [], alts := [], laidByText := true, laidKinds := [.data, .data, .data, .sentinel, .sentinel, .listed, .data, .data], laidTests := true, laidLooks := .later }
def WorldOnceUptoCardSaid : Prop := Claim7.holds Tryz.pinned (.plain (OpenSpec.upto worldOnceSpec)) worldOnceUptoCard

/-- THE SECOND FORM's CARD OF 'waybillkeep.WorldOrder'. -/
def worldOrderUptoCard : Claim7 := { stood := { row := worldOrderUptoRow, standIns := [], harness := (true, "79c54d0fae5e44c0961be4844d40f1963773679bf97f562163cfd2e3a3cfca8f"), looks := true }, kinds := [], alts := [], laidByText := true, laidKinds := [.data, .data, .data, .sentinel, .sentinel, .listed, .data, .data], laidTests := true, laidLooks := .later }
def WorldOrderUptoCardSaid : Prop := Claim7.holds Tryz.pinned (.plain (OpenSpec.upto worldOrderSpec)) worldOrderUptoCard
end Rows
end Go.Proofs.YtgkcfpbndgfdlaaGreatDoor
