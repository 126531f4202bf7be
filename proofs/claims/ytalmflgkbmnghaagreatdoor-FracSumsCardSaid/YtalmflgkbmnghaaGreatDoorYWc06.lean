import Derived.Test.YtalmflgkbmnghaaGreatDoorYWc05
import Derived.Test.YtalmflgkbmnghaaGreatDoorRS03
import Derived.Test.YtalmflgkbmnghaaGreatDoorYWc03
/- Part of the proof: YN, Te, YE, YO. -/
set_option linter.unusedVariables false
set_option linter.unusedSimpArgs false
set_option linter.unusedSectionVars false
namespace Go.Proofs.YtalmflgkbmnghaaGreatDoor
open Go Go.RowKit Tw
set_option linter.unusedSimpArgs false
set_option linter.unusedVariables false
open Tf (dg R R_pos R_le R_succ dg_of_lt setd setd_eq)
variable [ShLZ]
end Go.Proofs.YtalmflgkbmnghaaGreatDoor
/- The texts of fractions, and what is read of them, of their neighbours and of what is no text. -/
namespace Go.Proofs.YtalmflgkbmnghaaGreatDoor
open Go.RowKit Tf
variable [ShLZ]
variable [ShSt]
end Go.Proofs.YtalmflgkbmnghaaGreatDoor
namespace Go.Proofs.YtalmflgkbmnghaaGreatDoor
open Go Go.RowKit Tw Tf
variable [ShLZ]
variable [ShSt]
def decP (m : Nat) : List UInt8 := if m = 0 then [] else Lib.decDigits m
theorem decP_pos {m : Nat} (h : 0 < m) : decP m = Lib.decDigits m := if_neg (by omega)
theorem decP_step {m : Nat} (h : 0 < m) : decP m = decP (m / 10) ++ [UInt8.ofNat (48 + m % 10)] := by
  rw [decP_pos h]
  rcases Nat.lt_or_ge m 10 with h1 | h1
  · rw [dec_small h1, Nat.div_eq_of_lt h1, Nat.mod_eq_of_lt h1]; rfl
  · rw [dec_big h1, decP_pos (by omega)]
def DecI (N m : Nat) (s : List UInt8) : Prop := (s = [] ∧ m = N) ∨ (s ≠ [] ∧ decP m ++ s = Lib.decDigits N)
theorem DecI.step {N m : Nat} {s : List UInt8} {c : UInt8} (h : DecI N m s) (hr : 0 < m ∨ s = []) (hc : c = UInt8.ofNat (48 + m % 10)) : DecI N (m / 10) ([c] ++ s) := by
  subst hc
  right
  refine ⟨by simp, ?_⟩
  rcases Nat.eq_zero_or_pos m with h0 | h0
  · subst h0
    rcases h with ⟨h1, h2⟩ | ⟨h1, h2⟩
    · subst h1 h2; rw [dec_small (by omega)]; rfl
    · rcases hr with h3 | h3
      · omega
      · exact absurd h3 h1
  · rw [← List.append_assoc, ← decP_step h0]
    rcases h with ⟨h1, h2⟩ | ⟨h1, h2⟩
    · subst h1 h2; rw [decP_pos h0, List.append_nil]
    · exact h2
theorem DecI.end {N m : Nat} {s : List UInt8} (h : DecI N m s) (h1 : ¬ 0 < m) (h2 : ¬ s = []) : s = Lib.decDigits N := by
  rcases h with ⟨h3, _⟩ | ⟨_, h4⟩
  · exact absurd h3 h2
  · rw [← h4, show m = 0 from by omega]; rfl
theorem DecI.len {N m : Nat} {s : List UInt8} (h : DecI N m s) : s.length ≤ (Lib.decDigits N).length := by
  rcases h with ⟨h3, _⟩ | ⟨_, h4⟩
  · subst h3; simp
  · rw [← h4]; simp
end Go.Proofs.YtalmflgkbmnghaaGreatDoor
namespace Go.Proofs.YtalmflgkbmnghaaGreatDoor
open Go Go.RowKit Tw
set_option linter.unusedSimpArgs false
set_option linter.unusedVariables false
open Tf (dg R R_pos R_le R_succ dg_of_lt setd setd_eq)
variable [ShLZ]
variable [ShSt]
end Go.Proofs.YtalmflgkbmnghaaGreatDoor
