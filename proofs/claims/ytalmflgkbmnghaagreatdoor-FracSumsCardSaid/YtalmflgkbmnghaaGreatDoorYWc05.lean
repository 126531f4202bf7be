import Derived.Test.YtalmflgkbmnghaaGreatDoorYWc04
/- Part of the proof: YL. -/
set_option linter.unusedVariables false
set_option linter.unusedSimpArgs false
set_option linter.unusedSectionVars false
namespace Go.Proofs.YtalmflgkbmnghaaGreatDoor
open Go Go.RowKit Tw
set_option linter.unusedSimpArgs false
set_option linter.unusedVariables false
open Tf (dg R R_pos R_le R_succ dg_of_lt setd setd_eq)
variable [ShLZ]
end Go.Proofs.YtalmflgkbmnghaaGreatDoor
