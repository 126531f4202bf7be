import Derived.Test.YtkfcikijmkgahaaDoorG25
import Derived.Test.YtkfcikijmkgahaaDoorG02
/- Part of the proof: Sc. -/
set_option linter.unusedVariables false
set_option linter.unusedSimpArgs false
set_option linter.unusedSectionVars false
namespace Go.Proofs.YtkfcikijmkgahaaDoor
open Go.RowKit Tw
theorem contains_any (l : List UInt8) (W : World) : Calls Tryd.prog 22 #[.string ⟨l.toArray⟩, .string ⟨#[47]⟩] W fun e w' => e = .returned (.bool (decide (0 ≤ Lib.indexByte l 47))) ∧ Below W.heap.size W w' :=
  (Tryd.strings_Contains_one ⟨l.toArray⟩ 47 W).mono fun e w' ⟨he, hw⟩ => ⟨he, by subst hw; exact Below.refl _ _⟩
end Go.Proofs.YtkfcikijmkgahaaDoor
