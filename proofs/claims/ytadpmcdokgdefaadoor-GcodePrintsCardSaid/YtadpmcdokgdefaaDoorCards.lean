/-
  DERIVED. GIVEN WITH THE SEED: THE CARDS: each row of YtadpmcdokgdefaaDoorRows.lean that lists a variable, with what it lists TIED to the program's text (the seventh form; the later family's looks); each row that meets fmt, with fmt's text TOLD by the authors' own Lean function (tested against real Go, not proved from fmt's source: count such statements apart). THE CARD IS WHAT COUNTS. Prove the row's statement (the work); the ties are given (YtadpmcdokgdefaaDoorTie.lean); close each card by the builder's one call (the guide's Derived/Test/ToyasCard.lean, 'card_holds'). Laid BY PROGRAM, IN A SANDBOX (cutbox-door.mjs). By AI agents, Wed Nov 11 2026. No macro, syntax, notation, axiom, sorry.
-/
import Derived.Test.YtadpmcdokgdefaaDoorRows
import GoSem.ClaimSeven
namespace Go.Proofs.YtadpmcdokgdefaaDoor
namespace Rows

/-- THE TIED CARD OF 'additivelaw39.GcodeValid'. -/
def gcodeValidCard : Claim7 := { stood := { row := gcodeValidRow, standIns := [], harness := (true, "b16e2e60ff949c9efee04e08b683bb5656d39d4b287cc645c9129c497131799e"), looks := false }, kinds := [], alts := [], laidByText := true, laidKinds := [.data, .data, .data], laidTests := true, laidLooks := .later }
def GcodeValidCardSaid : Prop := Claim7.holds Tryd.pinned (.plain (OpenSpec.ofChange gcodeValidSpec)) gcodeValidCard

/-- THE TIED CARD OF 'additivelaw39.GcodePrints'. -/
def gcodePrintsCard : Claim7 := { stood := { row := gcodePrintsRow, standIns := [], harness := (true, "b16e2e60ff949c9efee04e08b683bb5656d39d4b287cc645c9129c497131799e"), looks := false }, kinds := [], alts := [], laidByText := true, laidKinds := [.data, .data, .data], laidTests := true, laidLooks := .later }
def GcodePrintsCardSaid : Prop := Claim7.holds Tryd.pinned (.plain (OpenSpec.ofChange gcodePrintsSpec)) gcodePrintsCard

/-- THE TIED CARD OF 'additivelaw39.GcodeApart'. -/
def gcodeApartCard : Claim7 := { stood := { row := gcodeApartRow, standIns := [], harness := (true, "b16e2e60ff949c9efee04e08b683bb5656d39d4b287cc645c9129c497131799e"), looks := false }, kinds := [], alts := [], laidByText := true, laidKinds := [.data, .data, .data], laidTests := true, laidLooks := .later }
def GcodeApartCardSaid : Prop := Claim7.holds Tryd.pinned (.plain (OpenSpec.ofChange gcodeApartSpec)) gcodeApartCard

/-- THE TIED CARD OF 'additivelaw39.GcodeCodes'. -/
def gcodeCodesCard : Claim7 := { stood := { row := gcodeCodesRow, standIns := [], harness := (true, "b16e2e60ff949c9efee04e08b683bb5656d39d4b287cc645c9129c497131799e"), looks := false }, kinds := [], alts := [], laidByText := true, laidKinds := [.data, .data, .data], laidTests := true, laidLooks := .later }
def GcodeCodesCardSaid : Prop := Claim7.holds Tryd.pinned (.plain (OpenSpec.ofChange gcodeCodesSpec)) gcodeCodesCard

/-- THE SECOND FORM's CARD OF 'additivelaw39.GcodeValid'. -/
def gcodeValidUptoCard : Claim7 := { stood := { row := gcodeValidUptoRow, standIns := [], harness := (true, "b16e2e60ff949c9efee04e08b683bb5656d39d4b287cc645c9129c497131799e"), looks := false }, kinds := [], alts := [], laidByText := true, laidKinds := [.data, .data, .data], laidTests := true, laidLooks := .later }
def GcodeValidUptoCardSaid : Prop := Claim7.holds Tryd.pinned (.plain (OpenSpec.upto gcodeValidSpec)) gcodeValidUptoCard

/-- THE SECOND FORM's CARD OF 'additivelaw39.GcodePrints'. -/
def gcodePrintsUptoCard : Claim7 := { stood := { row := gcodePrintsUptoRow, standIns := [], harness := (true, "b16e2e60ff949c9efee04e08b683bb5656d39d4b287cc645c9129c497131799e"), looks := false }, kinds := [], alts := [], laidByText := true, laidKinds := [.data, .data, .data], laidTests := true, laidLooks := .later }
def GcodePrintsUptoCardSaid : Prop := Claim7.holds Tryd.pinned (.plain (OpenSpec.upto gcodePrintsSpec)) gcodePrintsUptoCard

/-- THE SECOND FORM's CARD OF 'additivelaw39.GcodeApart'. -/
def gcodeApartUptoCard : Claim7 := { stood := { row := gcodeApartUptoRow, standIns := [], harness := (true, "b16e2e60ff949c9efee04e08b683bb5656d39d4b287cc645c9129c497131799e"), looks := false }, kinds := [], alts := [], laidByText := true, laidKinds := [.data, .data, .data], laidTests := true, laidLooks := .later }
def GcodeApartUptoCardSaid : Prop := Claim7.holds Tryd.pinned (.plain (OpenSpec.upto gcodeApartSpec)) gcodeApartUptoCard

/-- THE SECOND FORM's CARD OF 'additivelaw39.GcodeCodes'. -/
def gcodeCodesUptoCard : Claim7 := { stood := { row := gcodeCodesUptoRow, standIns := [], harness := (true, "b16e2e60ff949c9efee04e08b683bb5656d39d4b287cc645c9129c497131799e"), looks := false }, kinds := [], alts := [], laidByText := true, laidKinds := [.data, .data, .data], laidTests := true, laidLooks := .later }
def GcodeCodesUptoCardSaid : Prop := Claim7.holds Tryd.pinned (.plain (OpenSpec.upto gcodeCodesSpec)) gcodeCodesUptoCard
end Rows
end Go.Proofs.YtadpmcdokgdefaaDoor
