/-
  DERIVED. GIVEN WITH THE SEED: THE CARDS: each row of YtllmpemmknblaaaDoorRows.lean that lists a variable, with what it lists TIED to the program's text (the seventh form; the later family's looks); each row that meets fmt, with fmt's text TOLD by the authors' own Lean function (tested against real Go, not proved from fmt's source: count such statements apart). THE CARD IS WHAT COUNTS. Prove the row's statement (the work); the ties are given (YtllmpemmknblaaaDoorTie.lean); close each card by the builder's one call (the guide's Derived/Test/ToyasCard.lean, 'card_holds'). Laid BY PROGRAM, IN A SANDBOX (cutbox-door.mjs). By AI agents, Wed Nov 11 2026. No macro, syntax, notation, axiom, sorry.
-/
import Derived.Test.YtllmpemmknblaaaDoorRows
import GoSem.ClaimSeven
namespace Go.Proofs.YtllmpemmknblaaaDoor
namespace Rows

/-- THE TIED CARD OF 'twistlocklaw06.BoxLists'. -/
def boxListsCard : Claim7 := { stood := { row := boxListsRow, standIns := [], harness := (true, "37e80f711496b5b30dbf11634db918cd4eb2cd0cbb1146c5abd19b1833f63bd5"), looks := false }, kinds := [], alts := [], laidByText := true, laidKinds := [.data], laidTests := true, laidLooks := .later }
def BoxListsCardSaid : Prop := Claim7.holds Tryd.pinned (.plain (OpenSpec.ofChange boxListsSpec)) boxListsCard

/-- THE TIED CARD OF 'twistlocklaw06.BoxSmall'. -/
def boxSmallCard : Claim7 := { stood := { row := boxSmallRow, standIns := [], harness := (true, "37e80f711496b5b30dbf11634db918cd4eb2cd0cbb1146c5abd19b1833f63bd5"), looks := false }, kinds := [], alts := [], laidByText := true, laidKinds := [.data], laidTests := true, laidLooks := .later }
def BoxSmallCardSaid : Prop := Claim7.holds Tryd.pinned (.plain (OpenSpec.ofChange boxSmallSpec)) boxSmallCard

/-- THE TIED CARD OF 'twistlocklaw06.BoxKinds'. -/
def boxKindsCard : Claim7 := { stood := { row := boxKindsRow, standIns := [], harness := (true, "37e80f711496b5b30dbf11634db918cd4eb2cd0cbb1146c5abd19b1833f63bd5"), looks := false }, kinds := [], alts := [], laidByText := true, laidKinds := [.data], laidTests := true, laidLooks := .later }
def BoxKindsCardSaid : Prop := Claim7.holds Tryd.pinned (.plain (OpenSpec.ofChange boxKindsSpec)) boxKindsCard

/-- THE TIED CARD OF 'twistlocklaw06.BoxStays'. -/
def boxStaysCard : Claim7 := { stood := { row := boxStaysRow, standIns := [], harness := (true, "37e80f711496b5b30dbf11634db918cd4eb2cd0cbb1146c5abd19b1833f63bd5"), looks := false }, kinds := [], alts := [], laidByText := true, laidKinds := [.data], laidTests := true, laidLooks := .later }
def BoxStaysCardSaid : Prop := Claim7.holds Tryd.pinned (.plain (OpenSpec.ofChange boxStaysSpec)) boxStaysCard

/-- THE TIED CARD OF 'twistlocklaw06.BoxSums'. -/
def boxSumsCard : Claim7 := { stood := { row := boxSumsRow, standIns := [], harness := (true, "37e80f711496b5b30dbf11634db918cd4eb2cd0cbb1146c5abd19b1833f63bd5"), looks := false }, kinds := [], alts := [], laidByText := true, laidKinds := [.data], laidTests := true, laidLooks := .later }
def BoxSumsCardSaid : Prop := Claim7.holds Tryd.pinned (.plain (OpenSpec.ofChange boxSumsSpec)) boxSumsCard

/-- THE TIED CARD OF 'twistlocklaw06.BoxOrder'. -/
def boxOrderCard : Claim7 := { stood := { row := boxOrderRow, standIns := [], harness := (true, "37e80f711496b5b30dbf11634db918cd4eb2cd0cbb1146c5abd19b1833f63bd5"), looks := false }, kinds := [], alts := [], laidByText := true, laidKinds := [.data], laidTests := true, laidLooks := .later }
def BoxOrderCardSaid : Prop := Claim7.holds Tryd.pinned (.plain (OpenSpec.ofChange boxOrderSpec)) boxOrderCard

/-- THE TIED CARD OF 'twistlocklaw06.BoxFirst'. -/
def boxFirstCard : Claim7 := { stood := { row := boxFirstRow, standIns := [], harness := (true, "37e80f711496b5b30dbf11634db918cd4eb2cd0cbb1146c5abd19b1833f63bd5"), looks := false }, kinds := [], alts := [], laidByText := true, laidKinds := [.data], laidTests := true, laidLooks := .later }
def BoxFirstCardSaid : Prop := Claim7.holds Tryd.pinned (.plain (OpenSpec.ofChange boxFirstSpec)) boxFirstCard

/-- THE TIED CARD OF 'twistlocklaw06.BoxWrong'. -/
def boxWrongCard : Claim7 := { stood := { row := boxWrongRow, standIns := [], harness := (true, "37e80f711496b5b30dbf11634db918cd4eb2cd0cbb1146c5abd19b1833f63bd5"), looks := false }, kinds := [], alts := [], laidByText := true, laidKinds := [.data], laidTests := true, laidLooks := .later }
def BoxWrongCardSaid : Prop := Claim7.holds Tryd.pinned (.plain (OpenSpec.ofChange boxWrongSpec)) boxWrongCard

/-- THE SECOND FORM's CARD OF 'twistlocklaw06.BoxLists'. -/
def boxListsUptoCard : Claim7 := { stood := { row := boxListsUptoRow, standIns := [], harness := (true, "37e80f711496b5b30dbf11634db918cd4eb2cd0cbb1146c5abd19b1833f63bd5"), looks := false }, kinds := [], alts := [], laidByText := true, laidKinds := [.data], laidTests := true, laidLooks := .later }
def BoxListsUptoCardSaid : Prop := Claim7.holds Tryd.pinned (.plain (OpenSpec.upto boxListsSpec)) boxListsUptoCard

/-- THE SECOND FORM's CARD OF 'twistlocklaw06.BoxSmall'. -/
def boxSmallUptoCard : Claim7 := { stood := { row := boxSmallUptoRow, standIns := [], harness := (true, "37e80f711496b5b30dbf11634db918cd4eb2cd0cbb1146c5abd19b1833f63bd5"), looks := false }, kinds := [], alts := [], laidByText := true, laidKinds := [.data], laidTests := true, laidLooks := .later }
def BoxSmallUptoCardSaid : Prop := Claim7.holds Tryd.pinned (.plain (OpenSpec.upto boxSmallSpec)) boxSmallUptoCard

/-- THE SECOND FORM's CARD OF 'twistlocklaw06.BoxKinds'. -/
def boxKindsUptoCard : Claim7 := { stood := { row := boxKindsUptoRow, standIns := [], harness := (true, "37e80f711496b5b30dbf11634db918cd4eb2cd0cbb1146c5abd19b1833f63bd5"), looks := false }, kinds := [], alts := [], laidByText := true, laidKinds := [.data], laidTests := true, laidLooks := .later }
def BoxKindsUptoCardSaid : Prop := Claim7.holds Tryd.pinned (.plain (OpenSpec.upto boxKindsSpec)) boxKindsUptoCard

/-- THE SECOND FORM's CARD OF 'twistlocklaw06.BoxStays'. -/
def boxStaysUptoCard : Claim7 := { stood := { row := boxStaysUptoRow, standIns := [], harness := (true, "37e80f711496b5b30dbf11634db918cd4eb2cd0cbb1146c5abd19b1833f63bd5"), looks := false }, kinds := [], alts := [], laidByText := true, laidKinds := [.data], laidTests := true, laidLooks := .later }
def BoxStaysUptoCardSaid : Prop := Claim7.holds Tryd.pinned (.plain (OpenSpec.upto boxStaysSpec)) boxStaysUptoCard

/-- THE SECOND FORM's CARD OF 'twistlocklaw06.BoxSums'. -/
def boxSumsUptoCard : Claim7 := { stood := { row := boxSumsUptoRow, standIns := [], harness := (true, "37e80f711496b5b30dbf11634db918cd4eb2cd0cbb1146c5abd19b1833f63bd5"), looks := false }, kinds := [], alts := [], laidByText := true, laidKinds := [.data], laidTests := true, laidLooks := .later }
def BoxSumsUptoCardSaid : Prop := Claim7.holds Tryd.pinned (.plain (OpenSpec.upto boxSumsSpec)) boxSumsUptoCard

/-- THE SECOND FORM's CARD OF 'twistlocklaw06.BoxOrder'. -/
def boxOrderUptoCard : Claim7 := { stood := { row := boxOrderUptoRow, standIns := [], harness := (true, "37e80f711496b5b30dbf11634db918cd4eb2cd0cbb1146c5abd19b1833f63bd5"), looks := false }, kinds := [], alts := [], laidByText := true, laidKinds := [.data], laidTests := true, laidLooks := .later }
def BoxOrderUptoCardSaid : Prop := Claim7.holds Tryd.pinned (.plain (OpenSpec.upto boxOrderSpec)) boxOrderUptoCard

/-- THE SECOND FORM's CARD OF 'twistlocklaw06.BoxFirst'. -/
def boxFirstUptoCard : Claim7 := { stood := { row := boxFirstUptoRow, standIns := [], harness := (true, "37e80f711496b5b30dbf11634db918cd4eb2cd0cbb1146c5abd19b1833f63bd5"), looks := false }, kinds := [], alts := [], laidByText := true, laidKinds := [.data], laidTests := true, laidLooks := .later }
def BoxFirstUptoCardSaid : Prop := Claim7.holds Tryd.pinned (.plain (OpenSpec.upto boxFirstSpec)) boxFirstUptoCard

/-- THE SECOND FORM's CARD OF 'twistlocklaw06.BoxWrong'. -/
def boxWrongUptoCard : Claim7 := { stood := { row := boxWrongUptoRow, standIns := [], harness := (true, "37e80f711496b5b30dbf11634db918cd4eb2cd0cbb1146c5abd19b1833f63bd5"), looks := false }, kinds := [], alts := [], laidByText := true, laidKinds := [.data], laidTests := true, laidLooks := .later }
def BoxWrongUptoCardSaid : Prop := Claim7.holds Tryd.pinned (.plain (OpenSpec.upto boxWrongSpec)) boxWrongUptoCard
end Rows
end Go.Proofs.YtllmpemmknblaaaDoor
