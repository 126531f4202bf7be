/-
  DERIVED. GIVEN WITH THE SEED: THE CARDS: each row of YtalmflgkbmnghaaDoorRows.lean that lists a variable, with what it lists TIED to the program's text (the seventh form; the later family's looks); each row that meets fmt, with fmt's text TOLD by the authors' own Lean function (tested against real Go, not proved from fmt's source: count such statements apart). THE CARD IS WHAT COUNTS. Prove the row's statement (the work); the ties are given (YtalmflgkbmnghaaDoorTie.lean); close each card by the builder's one call (the guide's Derived/Test/ToyasCard.lean, 'card_holds'). Laid BY PROGRAM, IN A SANDBOX (cutbox-door.mjs). By AI agents, Wed Nov 11 2026. No macro, syntax, notation, axiom, sorry.
-/
import Derived.Test.YtalmflgkbmnghaaDoorRows
import GoSem.ClaimSeven
namespace Go.Proofs.YtalmflgkbmnghaaDoor
namespace Rows

/-- THE TIED CARD OF 'twistlocklaw01.FracRatios'. -/
def fracRatiosCard : Claim7 := { stood := { row := fracRatiosRow, standIns := [], harness := (true, "cf5245ab6d549540191912139ee22acef82956afec85fa84fde648f07a2fbbd5"), looks := false }, kinds := [], alts := [], laidByText := true, laidKinds := [.data, .data, .data], laidTests := true, laidLooks := .later }
def FracRatiosCardSaid : Prop := Claim7.holds Tryd.pinned (.plain (OpenSpec.ofChange fracRatiosSpec)) fracRatiosCard

/-- THE SECOND FORM's CARD OF 'twistlocklaw01.FracRatios'. -/
def fracRatiosUptoCard : Claim7 := { stood := { row := fracRatiosUptoRow, standIns := [], harness := (true, "cf5245ab6d549540191912139ee22acef82956afec85fa84fde648f07a2fbbd5"), looks := false }, kinds := [], alts := [], laidByText := true, laidKinds := [.data, .data, .data], laidTests := true, laidLooks := .later }
def FracRatiosUptoCardSaid : Prop := Claim7.holds Tryd.pinned (.plain (OpenSpec.upto fracRatiosSpec)) fracRatiosUptoCard
end Rows
end Go.Proofs.YtalmflgkbmnghaaDoor
