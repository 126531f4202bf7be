/-
  DERIVED. GIVEN WITH THE SEED: THE CARDS: each row of YtlinjngifacmoaaDoorRows.lean that lists a variable, with what it lists TIED to the program's text (the seventh form; the later family's looks); each row that meets fmt, with fmt's text TOLD by the authors' own Lean function (tested against real Go, not proved from fmt's source: count such statements apart). THE CARD IS WHAT COUNTS. Prove the row's statement (the work); the ties are given (YtlinjngifacmoaaDoorTie.lean); close each card by the builder's one call (the guide's Derived/Test/ToyasCard.lean, 'card_holds'). Laid BY PROGRAM, IN A SANDBOX (cutbox-door.mjs). By AI agents, Wed Nov 11 2026. No macro, syntax, notation, axiom, sorry.
-/
import Derived.Test.YtlinjngifacmoaaDoorRows
import GoSem.ClaimSeven
namespace Go.Proofs.YtlinjngifacmoaaDoor
namespace Rows

/-- THE TIED CARD OF 'twistlocklaw08.SlotTells'. -/
def slotTellsCard : Claim7 := { stood := { row := slotTellsRow, standIns := [], harness := (true, "81b67ac18daf2861ab2d7d3b59d8e7a91d9ad4eaef4421783b1f833b75de9ef6"), looks := false }, kinds := [], alts := [], laidByText := true, laidKinds := [.data], laidTests := true, laidLooks := .later }
def SlotTellsCardSaid : Prop := Claim7.holds Tryd.pinned (.plain (OpenSpec.ofChange slotTellsSpec)) slotTellsCard

/-- THE TIED CARD OF 'twistlocklaw08.SlotNames'. -/
def slotNamesCard : Claim7 := { stood := { row := slotNamesRow, standIns := [], harness := (true, "81b67ac18daf2861ab2d7d3b59d8e7a91d9ad4eaef4421783b1f833b75de9ef6"), looks := false }, kinds := [], alts := [], laidByText := true, laidKinds := [.data], laidTests := true, laidLooks := .later }
def SlotNamesCardSaid : Prop := Claim7.holds Tryd.pinned (.plain (OpenSpec.ofChange slotNamesSpec)) slotNamesCard

/-- THE TIED CARD OF 'twistlocklaw08.SlotBack'. -/
def slotBackCard : Claim7 := { stood := { row := slotBackRow, standIns := [], harness := (true, "81b67ac18daf2861ab2d7d3b59d8e7a91d9ad4eaef4421783b1f833b75de9ef6"), looks := false }, kinds := [], alts := [], laidByText := true, laidKinds := [.data], laidTests := true, laidLooks := .later }
def SlotBackCardSaid : Prop := Claim7.holds Tryd.pinned (.plain (OpenSpec.ofChange slotBackSpec)) slotBackCard

/-- THE TIED CARD OF 'twistlocklaw08.SlotAll'. -/
def slotAllCard : Claim7 := { stood := { row := slotAllRow, standIns := [], harness := (true, "81b67ac18daf2861ab2d7d3b59d8e7a91d9ad4eaef4421783b1f833b75de9ef6"), looks := false }, kinds := [], alts := [], laidByText := true, laidKinds := [.data], laidTests := true, laidLooks := .later }
def SlotAllCardSaid : Prop := Claim7.holds Tryd.pinned (.plain (OpenSpec.ofChange slotAllSpec)) slotAllCard

/-- THE TIED CARD OF 'twistlocklaw08.SlotOrder'. -/
def slotOrderCard : Claim7 := { stood := { row := slotOrderRow, standIns := [], harness := (true, "81b67ac18daf2861ab2d7d3b59d8e7a91d9ad4eaef4421783b1f833b75de9ef6"), looks := false }, kinds := [], alts := [], laidByText := true, laidKinds := [.data], laidTests := true, laidLooks := .later }
def SlotOrderCardSaid : Prop := Claim7.holds Tryd.pinned (.plain (OpenSpec.ofChange slotOrderSpec)) slotOrderCard

/-- THE TIED CARD OF 'twistlocklaw08.SlotHeld'. -/
def slotHeldCard : Claim7 := { stood := { row := slotHeldRow, standIns := [], harness := (true, "81b67ac18daf2861ab2d7d3b59d8e7a91d9ad4eaef4421783b1f833b75de9ef6"), looks := false }, kinds := [], alts := [], laidByText := true, laidKinds := [.data], laidTests := true, laidLooks := .later }
def SlotHeldCardSaid : Prop := Claim7.holds Tryd.pinned (.plain (OpenSpec.ofChange slotHeldSpec)) slotHeldCard

/-- THE TIED CARD OF 'twistlocklaw08.SlotWrong'. -/
def slotWrongCard : Claim7 := { stood := { row := slotWrongRow, standIns := [], harness := (true, "81b67ac18daf2861ab2d7d3b59d8e7a91d9ad4eaef4421783b1f833b75de9ef6"), looks := false }, kinds := [], alts := [], laidByText := true, laidKinds := [.data], laidTests := true, laidLooks := .later }
def SlotWrongCardSaid : Prop := Claim7.holds Tryd.pinned (.plain (OpenSpec.ofChange slotWrongSpec)) slotWrongCard

/-- THE SECOND FORM's CARD OF 'twistlocklaw08.SlotTells'. -/
def slotTellsUptoCard : Claim7 := { stood := { row := slotTellsUptoRow, standIns := [], harness := (true, "81b67ac18daf2861ab2d7d3b59d8e7a91d9ad4eaef4421783b1f833b75de9ef6"), looks := false }, kinds := [], alts := [], laidByText := true, laidKinds := [.data], laidTests := true, laidLooks := .later }
def SlotTellsUptoCardSaid : Prop := Claim7.holds Tryd.pinned (.plain (OpenSpec.upto slotTellsSpec)) slotTellsUptoCard

/-- THE SECOND FORM's CARD OF 'twistlocklaw08.SlotNames'. -/
def slotNamesUptoCard : Claim7 := { stood := { row := slotNamesUptoRow, standIns := [], harness := (true, "81b67ac18daf2861ab2d7d3b59d8e7a91d9ad4eaef4421783b1f833b75de9ef6"), looks := false }, kinds := [], alts := [], laidByText := true, laidKinds := [.data], laidTests := true, laidLooks := .later }
def SlotNamesUptoCardSaid : Prop := Claim7.holds Tryd.pinned (.plain (OpenSpec.upto slotNamesSpec)) slotNamesUptoCard

/-- THE SECOND FORM's CARD OF 'twistlocklaw08.SlotBack'. -/
def slotBackUptoCard : Claim7 := { stood := { row := slotBackUptoRow, standIns := [], harness := (true, "81b67ac18daf2861ab2d7d3b59d8e7a91d9ad4eaef4421783b1f833b75de9ef6"), looks := false }, kinds := [], alts := [], laidByText := true, laidKinds := [.data], laidTests := true, laidLooks := .later }
def SlotBackUptoCardSaid : Prop := Claim7.holds Tryd.pinned (.plain (OpenSpec.upto slotBackSpec)) slotBackUptoCard

/-- THE SECOND FORM's CARD OF 'twistlocklaw08.SlotAll'. -/
def slotAllUptoCard : Claim7 := { stood := { row := slotAllUptoRow, standIns := [], harness := (true, "81b67ac18daf2861ab2d7d3b59d8e7a91d9ad4eaef4421783b1f833b75de9ef6"), looks := false }, kinds := [], alts := [], laidByText := true, laidKinds := [.data], laidTests := true, laidLooks := .later }
def SlotAllUptoCardSaid : Prop := Claim7.holds Tryd.pinned (.plain (OpenSpec.upto slotAllSpec)) slotAllUptoCard

/-- THE SECOND FORM's CARD OF 'twistlocklaw08.SlotOrder'. -/
def slotOrderUptoCard : Claim7 := { stood := { row := slotOrderUptoRow, standIns := [], harness := (true, "81b67ac18daf2861ab2d7d3b59d8e7a91d9ad4eaef4421783b1f833b75de9ef6"), looks := false }, kinds := [], alts := [], laidByText := true, laidKinds := [.data], laidTests := true, laidLooks := .later }
def SlotOrderUptoCardSaid : Prop := Claim7.holds Tryd.pinned (.plain (OpenSpec.upto slotOrderSpec)) slotOrderUptoCard

/-- THE SECOND FORM's CARD OF 'twistlocklaw08.SlotHeld'. -/
def slotHeldUptoCard : Claim7 := { stood := { row := slotHeldUptoRow, standIns := [], harness := (true, "81b67ac18daf2861ab2d7d3b59d8e7a91d9ad4eaef4421783b1f833b75de9ef6"), looks := false }, kinds := [], alts := [], laidByText := true, laidKinds := [.data], laidTests := true, laidLooks := .later }
def SlotHeldUptoCardSaid : Prop := Claim7.holds Tryd.pinned (.plain (OpenSpec.upto slotHeldSpec)) slotHeldUptoCard

/-- THE SECOND FORM's CARD OF 'twistlocklaw08.SlotWrong'. -/
def slotWrongUptoCard : Claim7 := { stood := { row := slotWrongUptoRow, standIns := [], harness := (true, "81b67ac18daf2861ab2d7d3b59d8e7a91d9ad4eaef4421783b1f833b75de9ef6"), looks := false }, kinds := [], alts := [], laidByText := true, laidKinds := [.data], laidTests := true, laidLooks := .later }
def SlotWrongUptoCardSaid : Prop := Claim7.holds Tryd.pinned (.plain (OpenSpec.upto slotWrongSpec)) slotWrongUptoCard
end Rows
end Go.Proofs.YtlinjngifacmoaaDoor
