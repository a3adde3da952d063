/-
  DERIVED. GIVEN WITH THE SEED: THE CARDS: each row of YtfejdbmamaggpaaDoorRows.lean that lists a variable, with what it lists TIED to the program's text (the seventh form; the later family's looks); each row that meets fmt, with fmt's text TOLD by the authors' own Lean function (tested against real Go, not proved from fmt's source: count such statements apart). THE CARD IS WHAT COUNTS. Prove the row's statement (the work); the ties are given (YtfejdbmamaggpaaDoorTie.lean); close each card by the builder's one call (the guide's Derived/Test/ToyasCard.lean, 'card_holds'). Laid BY PROGRAM, IN A SANDBOX (cutbox-door.mjs). By AI agents, Wed Nov 11 2026. No macro, syntax, notation, axiom, sorry.
-/
import Derived.Test.YtfejdbmamaggpaaDoorRows
import GoSem.ClaimSeven
namespace Go.Proofs.YtfejdbmamaggpaaDoor
namespace Rows

/-- THE TIED CARD OF 'aneroidlaw37.UnitNames'. -/
def unitNamesCard : Claim7 := { stood := { row := unitNamesRow, standIns := [], harness := (true, "ce1f9391adbcb21a0d4ce154876400ee257a9c86f6de632f20b135a2d91de8fa"), looks := true }, kinds := [], alts := [], laidByText := true, laidKinds := [.data, .data, .data, .data, .pinned], laidTests := true, laidLooks := .later }
def UnitNamesCardSaid : Prop := Claim7.holds Tryd.pinned (.plain (OpenSpec.ofChange unitNamesSpec)) unitNamesCard

/-- THE TIED CARD OF 'aneroidlaw37.UnitChanges'. -/
def unitChangesCard : Claim7 := { stood := { row := unitChangesRow, standIns := [], harness := (true, "ce1f9391adbcb21a0d4ce154876400ee257a9c86f6de632f20b135a2d91de8fa"), looks := true }, kinds := [], alts := [], laidByText := true, laidKinds := [.data, .data, .data, .data, .pinned], laidTests := true, laidLooks := .later }
def UnitChangesCardSaid : Prop := Claim7.holds Tryd.pinned (.plain (OpenSpec.ofChange unitChangesSpec)) unitChangesCard

/-- THE TIED CARD OF 'aneroidlaw37.UnitTexts'. -/
def unitTextsCard : Claim7 := { stood := { row := unitTextsRow, standIns := [], harness := (true, "ce1f9391adbcb21a0d4ce154876400ee257a9c86f6de632f20b135a2d91de8fa"), looks := true }, kinds := [], alts := [], laidByText := true, laidKinds := [.data, .data, .data, .data, .pinned], laidTests := true, laidLooks := .later }
def UnitTextsCardSaid : Prop := Claim7.holds Tryd.pinned (.plain (OpenSpec.ofChange unitTextsSpec)) unitTextsCard

/-- THE TIED CARD OF 'aneroidlaw37.UnitBack'. -/
def unitBackCard : Claim7 := { stood := { row := unitBackRow, standIns := [], harness := (true, "ce1f9391adbcb21a0d4ce154876400ee257a9c86f6de632f20b135a2d91de8fa"), looks := true }, kinds := [], alts := [], laidByText := true, laidKinds := [.data, .data, .data, .data, .pinned], laidTests := true, laidLooks := .later }
def UnitBackCardSaid : Prop := Claim7.holds Tryd.pinned (.plain (OpenSpec.ofChange unitBackSpec)) unitBackCard

/-- THE TIED CARD OF 'aneroidlaw37.UnitOrder'. -/
def unitOrderCard : Claim7 := { stood := { row := unitOrderRow, standIns := [], harness := (true, "ce1f9391adbcb21a0d4ce154876400ee257a9c86f6de632f20b135a2d91de8fa"), looks := true }, kinds := [], alts := [], laidByText := true, laidKinds := [.data, .data, .data, .data, .pinned], laidTests := true, laidLooks := .later }
def UnitOrderCardSaid : Prop := Claim7.holds Tryd.pinned (.plain (OpenSpec.ofChange unitOrderSpec)) unitOrderCard

/-- THE TIED CARD OF 'aneroidlaw49.MaintLines'. -/
def maintLinesCard : Claim7 := { stood := { row := maintLinesRow, standIns := [], harness := (true, "ce1f9391adbcb21a0d4ce154876400ee257a9c86f6de632f20b135a2d91de8fa"), looks := true }, kinds := [], alts := [], laidByText := true, laidKinds := [.data, .data, .data, .sentinel, .sentinel], laidTests := true, laidLooks := .later }
def MaintLinesCardSaid : Prop := Claim7.holds Tryd.pinned (.plain (OpenSpec.ofChange maintLinesSpec)) maintLinesCard

/-- THE TIED CARD OF 'aneroidlaw49.MaintReports'. -/
def maintReportsCard : Claim7 := { stood := { row := maintReportsRow, standIns := [], harness := (true, "ce1f9391adbcb21a0d4ce154876400ee257a9c86f6de632f20b135a2d91de8fa"), looks := true }, kinds := [], alts := [], laidByText := true, laidKinds := [.data, .data, .data, .sentinel, .sentinel], laidTests := true, laidLooks := .later }
def MaintReportsCardSaid : Prop := Claim7.holds Tryd.pinned (.plain (OpenSpec.ofChange maintReportsSpec)) maintReportsCard

/-- THE TIED CARD OF 'aneroidlaw49.MaintCounts'. -/
def maintCountsCard : Claim7 := { stood := { row := maintCountsRow, standIns := [], harness := (true, "ce1f9391adbcb21a0d4ce154876400ee257a9c86f6de632f20b135a2d91de8fa"), looks := true }, kinds := [], alts := [], laidByText := true, laidKinds := [.data, .data, .data], laidTests := true, laidLooks := .later }
def MaintCountsCardSaid : Prop := Claim7.holds Tryd.pinned (.plain (OpenSpec.ofChange maintCountsSpec)) maintCountsCard

/-- THE TIED CARD OF 'aneroidlaw49.MaintLasts'. -/
def maintLastsCard : Claim7 := { stood := { row := maintLastsRow, standIns := [], harness := (true, "ce1f9391adbcb21a0d4ce154876400ee257a9c86f6de632f20b135a2d91de8fa"), looks := true }, kinds := [], alts := [], laidByText := true, laidKinds := [.data, .data, .data], laidTests := true, laidLooks := .later }
def MaintLastsCardSaid : Prop := Claim7.holds Tryd.pinned (.plain (OpenSpec.ofChange maintLastsSpec)) maintLastsCard

/-- THE TIED CARD OF 'aneroidlaw49.MaintBack'. -/
def maintBackCard : Claim7 := { stood := { row := maintBackRow, standIns := [], harness := (true, "ce1f9391adbcb21a0d4ce154876400ee257a9c86f6de632f20b135a2d91de8fa"), looks := true }, kinds := [], alts := [], laidByText := true, laidKinds := [.data, .data, .data, .sentinel, .sentinel], laidTests := true, laidLooks := .later }
def MaintBackCardSaid : Prop := Claim7.holds Tryd.pinned (.plain (OpenSpec.ofChange maintBackSpec)) maintBackCard

/-- THE TIED CARD OF 'aneroidlaw31.LedgerNotes'. -/
def ledgerNotesCard : Claim7 := { stood := { row := ledgerNotesRow, standIns := [], harness := (true, "ce1f9391adbcb21a0d4ce154876400ee257a9c86f6de632f20b135a2d91de8fa"), looks := true }, kinds := [], alts := [], laidByText := true, laidKinds := [.data, .data, .data], laidTests := true, laidLooks := .later }
def LedgerNotesCardSaid : Prop := Claim7.holds Tryd.pinned (.plain (OpenSpec.ofChange ledgerNotesSpec)) ledgerNotesCard

/-- THE TIED CARD OF 'aneroidlaw31.LedgerTexts'. -/
def ledgerTextsCard : Claim7 := { stood := { row := ledgerTextsRow, standIns := [], harness := (true, "ce1f9391adbcb21a0d4ce154876400ee257a9c86f6de632f20b135a2d91de8fa"), looks := true }, kinds := [], alts := [], laidByText := true, laidKinds := [.data, .data, .data, .data, .sentinel, .sentinel, .pinned], laidTests := true, laidLooks := .later }
def LedgerTextsCardSaid : Prop := Claim7.holds Tryd.pinned (.plain (OpenSpec.ofChange ledgerTextsSpec)) ledgerTextsCard

/-- THE TIED CARD OF 'aneroidlaw31.LedgerBack'. -/
def ledgerBackCard : Claim7 := { stood := { row := ledgerBackRow, standIns := [], harness := (true, "ce1f9391adbcb21a0d4ce154876400ee257a9c86f6de632f20b135a2d91de8fa"), looks := true }, kinds := [], alts := [], laidByText := true, laidKinds := [.data, .data, .data, .data, .sentinel, .sentinel, .pinned], laidTests := true, laidLooks := .later }
def LedgerBackCardSaid : Prop := Claim7.holds Tryd.pinned (.plain (OpenSpec.ofChange ledgerBackSpec)) ledgerBackCard

/-- THE TIED CARD OF 'aneroidlaw31.LedgerEach'. -/
def ledgerEachCard : Claim7 := { stood := { row := ledgerEachRow, standIns := [], harness := (true, "ce1f9391adbcb21a0d4ce154876400ee257a9c86f6de632f20b135a2d91de8fa"), looks := true }, kinds := [], alts := [], laidByText := true, laidKinds := [.data, .data, .data], laidTests := true, laidLooks := .later }
def LedgerEachCardSaid : Prop := Claim7.holds Tryd.pinned (.plain (OpenSpec.ofChange ledgerEachSpec)) ledgerEachCard

/-- THE SECOND FORM's CARD OF 'aneroidlaw37.UnitNames'. -/
def unitNamesUptoCard : Claim7 := { stood := { row := unitNamesUptoRow, standIns := [], harness := (true, "ce1f9391adbcb21a0d4ce154876400ee257a9c86f6de632f20b135a2d91de8fa"), looks := true }, kinds := [], alts := [], laidByText := true, laidKinds := [.data, .data, .data, .data, .pinned], laidTests := true, laidLooks := .later }
def UnitNamesUptoCardSaid : Prop := Claim7.holds Tryd.pinned (.plain (OpenSpec.upto unitNamesSpec)) unitNamesUptoCard

/-- THE SECOND FORM's CARD OF 'aneroidlaw37.UnitChanges'. -/
def unitChangesUptoCard : Claim7 := { stood := { row := unitChangesUptoRow, standIns := [], harness := (true, "ce1f9391adbcb21a0d4ce154876400ee257a9c86f6de632f20b135a2d91de8fa"), looks := true }, kinds := [], alts := [], laidByText := true, laidKinds := [.data, .data, .data, .data, .pinned], laidTests := true, laidLooks := .later }
def UnitChangesUptoCardSaid : Prop := Claim7.holds Tryd.pinned (.plain (OpenSpec.upto unitChangesSpec)) unitChangesUptoCard

/-- THE SECOND FORM's CARD OF 'aneroidlaw37.UnitTexts'. -/
def unitTextsUptoCard : Claim7 := { stood := { row := unitTextsUptoRow, standIns := [], harness := (true, "ce1f9391adbcb21a0d4ce154876400ee257a9c86f6de632f20b135a2d91de8fa"), looks := true }, kinds := [], alts := [], laidByText := true, laidKinds := [.data, .data, .data, .data, .pinned], laidTests := true, laidLooks := .later }
def UnitTextsUptoCardSaid : Prop := Claim7.holds Tryd.pinned (.plain (OpenSpec.upto unitTextsSpec)) unitTextsUptoCard

/-- THE SECOND FORM's CARD OF 'aneroidlaw37.UnitBack'. -/
def unitBackUptoCard : Claim7 := { stood := { row := unitBackUptoRow, standIns := [], harness := (true, "ce1f9391adbcb21a0d4ce154876400ee257a9c86f6de632f20b135a2d91de8fa"), looks := true }, kinds := [], alts := [], laidByText := true, laidKinds := [.data, .data, .data, .data, .pinned], laidTests := true, laidLooks := .later }
def UnitBackUptoCardSaid : Prop := Claim7.holds Tryd.pinned (.plain (OpenSpec.upto unitBackSpec)) unitBackUptoCard

/-- THE SECOND FORM's CARD OF 'aneroidlaw37.UnitOrder'. -/
def unitOrderUptoCard : Claim7 := { stood := { row := unitOrderUptoRow, standIns := [], harness := (true, "ce1f9391adbcb21a0d4ce154876400ee257a9c86f6de632f20b135a2d91de8fa"), looks := true }, kinds := [], alts := [], laidByText := true, laidKinds := [.data, .data, .data, .data, .pinned], laidTests := true, laidLooks := .later }
def UnitOrderUptoCardSaid : Prop := Claim7.holds Tryd.pinned (.plain (OpenSpec.upto unitOrderSpec)) unitOrderUptoCard

/-- THE SECOND FORM's CARD OF 'aneroidlaw49.MaintLines'. -/
def maintLinesUptoCard : Claim7 := { stood := { row := maintLinesUptoRow, standIns := [], harness := (true, "ce1f9391adbcb21a0d4ce154876400ee257a9c86f6de632f20b135a2d91de8fa"), looks := true }, kinds := [], alts := [], laidByText := true, laidKinds := [.data, .data, .data, .sentinel, .sentinel], laidTests := true, laidLooks := .later }
def MaintLinesUptoCardSaid : Prop := Claim7.holds Tryd.pinned (.plain (OpenSpec.upto maintLinesSpec)) maintLinesUptoCard

/-- THE SECOND FORM's CARD OF 'aneroidlaw49.MaintReports'. -/
def maintReportsUptoCard : Claim7 := { stood := { row := maintReportsUptoRow, standIns := [], harness := (true, "ce1f9391adbcb21a0d4ce154876400ee257a9c86f6de632f20b135a2d91de8fa"), looks := true }, kinds := [], alts := [], laidByText := true, laidKinds := [.data, .data, .data, .sentinel, .sentinel], laidTests := true, laidLooks := .later }
def MaintReportsUptoCardSaid : Prop := Claim7.holds Tryd.pinned (.plain (OpenSpec.upto maintReportsSpec)) maintReportsUptoCard

/-- THE SECOND FORM's CARD OF 'aneroidlaw49.MaintCounts'. -/
def maintCountsUptoCard : Claim7 := { stood := { row := maintCountsUptoRow, standIns := [], harness := (true, "ce1f9391adbcb21a0d4ce154876400ee257a9c86f6de632f20b135a2d91de8fa"), looks := true }, kinds := [], alts := [], laidByText := true, laidKinds := [.data, .data, .data], laidTests := true, laidLooks := .later }
def MaintCountsUptoCardSaid : Prop := Claim7.holds Tryd.pinned (.plain (OpenSpec.upto maintCountsSpec)) maintCountsUptoCard

/-- THE SECOND FORM's CARD OF 'aneroidlaw49.MaintLasts'. -/
def maintLastsUptoCard : Claim7 := { stood := { row := maintLastsUptoRow, standIns := [], harness := (true, "ce1f9391adbcb21a0d4ce154876400ee257a9c86f6de632f20b135a2d91de8fa"), looks := true }, kinds := [], alts := [], laidByText := true, laidKinds := [.data, .data, .data], laidTests := true, laidLooks := .later }
def MaintLastsUptoCardSaid : Prop := Claim7.holds Tryd.pinned (.plain (OpenSpec.upto maintLastsSpec)) maintLastsUptoCard

/-- THE SECOND FORM's CARD OF 'aneroidlaw49.MaintBack'. -/
def maintBackUptoCard : Claim7 := { stood := { row := maintBackUptoRow, standIns := [], harness := (true, "ce1f9391adbcb21a0d4ce154876400ee257a9c86f6de632f20b135a2d91de8fa"), looks := true }, kinds := [], alts := [], laidByText := true, laidKinds := [.data, .data, .data, .sentinel, .sentinel], laidTests := true, laidLooks := .later }
def MaintBackUptoCardSaid : Prop := Claim7.holds Tryd.pinned (.plain (OpenSpec.upto maintBackSpec)) maintBackUptoCard

/-- THE SECOND FORM's CARD OF 'aneroidlaw31.LedgerNotes'. -/
def ledgerNotesUptoCard : Claim7 := { stood := { row := ledgerNotesUptoRow, standIns := [], harness := (true, "ce1f9391adbcb21a0d4ce154876400ee257a9c86f6de632f20b135a2d91de8fa"), looks := true }, kinds := [], alts := [], laidByText := true, laidKinds := [.data, .data, .data], laidTests := true, laidLooks := .later }
def LedgerNotesUptoCardSaid : Prop := Claim7.holds Tryd.pinned (.plain (OpenSpec.upto ledgerNotesSpec)) ledgerNotesUptoCard

/-- THE SECOND FORM's CARD OF 'aneroidlaw31.LedgerTexts'. -/
def ledgerTextsUptoCard : Claim7 := { stood := { row := ledgerTextsUptoRow, standIns := [], harness := (true, "ce1f9391adbcb21a0d4ce154876400ee257a9c86f6de632f20b135a2d91de8fa"), looks := true }, kinds := [], alts := [], laidByText := true, laidKinds := [.data, .data, .data, .data, .sentinel, .sentinel, .pinned], laidTests := true, laidLooks := .later }
def LedgerTextsUptoCardSaid : Prop := Claim7.holds Tryd.pinned (.plain (OpenSpec.upto ledgerTextsSpec)) ledgerTextsUptoCard

/-- THE SECOND FORM's CARD OF 'aneroidlaw31.LedgerBack'. -/
def ledgerBackUptoCard : Claim7 := { stood := { row := ledgerBackUptoRow, standIns := [], harness := (true, "ce1f9391adbcb21a0d4ce154876400ee257a9c86f6de632f20b135a2d91de8fa"), looks := true }, kinds := [], alts := [], laidByText := true, laidKinds := [.data, .data, .data, .data, .sentinel, .sentinel, .pinned], laidTests := true, laidLooks := .later }
def LedgerBackUptoCardSaid : Prop := Claim7.holds Tryd.pinned (.plain (OpenSpec.upto ledgerBackSpec)) ledgerBackUptoCard

/-- THE SECOND FORM's CARD OF 'aneroidlaw31.LedgerEach'. -/
def ledgerEachUptoCard : Claim7 := { stood := { row := ledgerEachUptoRow, standIns := [], harness := (true, "ce1f9391adbcb21a0d4ce154876400ee257a9c86f6de632f20b135a2d91de8fa"), looks := true }, kinds := [], alts := [], laidByText := true, laidKinds := [.data, .data, .data], laidTests := true, laidLooks := .later }
def LedgerEachUptoCardSaid : Prop := Claim7.holds Tryd.pinned (.plain (OpenSpec.upto ledgerEachSpec)) ledgerEachUptoCard
end Rows
end Go.Proofs.YtfejdbmamaggpaaDoor
