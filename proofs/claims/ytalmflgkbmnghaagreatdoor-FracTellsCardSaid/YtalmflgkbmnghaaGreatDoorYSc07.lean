import Derived.Test.YtalmflgkbmnghaaGreatDoorYSc06
import Derived.Test.YtalmflgkbmnghaaGreatDoorYSc02
/- Part of the proof: YP, YQ0, YQ, YB. -/
set_option linter.unusedVariables false
set_option linter.unusedSimpArgs false
set_option linter.unusedSectionVars false
namespace Go.Proofs.YtalmflgkbmnghaaGreatDoor
open Go Go.RowKit Tw
set_option linter.unusedSimpArgs false
set_option linter.unusedVariables false
open Tf (dg R R_pos R_le R_succ dg_of_lt setd setd_eq)
variable [ShLZ]
variable [ShSt]
def AnsNW (W0 : Base) (K : List (Nat × Obj)) (n : Nat) (c : Int) (v : Value) (K2 : List (Nat × Obj)) : Prop := ∃ q d T, v = .tuple #[.slice q (cd n).length d, .int .i64 c] ∧ (cd n).length ≤ d ∧ NS W0 q (cd n) T ∧ Dj K T ∧ K2 = K ++ T
def AnsNF (w : World) (n : Nat) (c : Int) (e : Ending) (w' : World) : Prop := ∃ q d, e = .returned (.tuple #[.slice q (cd n).length d, .int .i64 c]) ∧ (cd n).length ≤ d ∧ SLF w w' q (nums (cd n)) ∧ Below w.heap.size w w'
theorem AnsNF.g {W0 : Base} {K : List (Nat × Obj)} {W w2 : World} {n : Nat} {c : Int} {e : Ending} (h : AnsNF W n c e w2) (hW : KS W0 K W) : ∃ v K2, e = .returned v ∧ KS W0 K2 w2 ∧ AnsNW W0 K n c v K2 := by
  obtain ⟨q, d, rfl, h1, h2, h3⟩ := h
  obtain ⟨T, h4, h5, h6, _⟩ := ns_new hW h3 h2
  exact ⟨_, _, rfl, h4, q, d, T, rfl, h1, h6, h5, rfl⟩
end Go.Proofs.YtalmflgkbmnghaaGreatDoor
namespace Go.Proofs.YtalmflgkbmnghaaGreatDoor
open Go Go.RowKit Tw
set_option linter.unusedSimpArgs false
set_option linter.unusedVariables false
open Tf (dg R R_pos R_le R_succ dg_of_lt setd setd_eq)
variable [ShLZ]
variable [ShSt]
def FirstAt (u : List UInt8) (k : Nat) (a : Int) : Prop := (a = -1 ∧ ∀ (j : Nat) (b : UInt8), k ≤ j → u[j]? = some b → ¬ b.toNat = 47) ∨ (∃ i : Nat, a = (i : Int) ∧ (∃ b, u[i]? = some b ∧ b.toNat = 47) ∧ ∀ (j : Nat) (b : UInt8), k ≤ j → j < i → u[j]? = some b → ¬ b.toNat = 47)
theorem FirstAt.start (u : List UInt8) : FirstAt u u.length (-1) := .inl ⟨rfl, fun j b hj hb => by have := (List.getElem?_eq_some_iff.1 hb).1; omega⟩
theorem FirstAt.hit {u : List UInt8} {k : Nat} {b : UInt8} (hb : u[k]? = some b) (h : b.toNat = 47) : FirstAt u k (k : Int) := .inr ⟨k, rfl, ⟨b, hb, h⟩, fun j c h1 h2 => by omega⟩
end Go.Proofs.YtalmflgkbmnghaaGreatDoor
namespace Go.Proofs.YtalmflgkbmnghaaGreatDoor
open Go Go.RowKit Tw
set_option linter.unusedSimpArgs false
set_option linter.unusedVariables false
open Tf (dg R R_pos R_le R_succ dg_of_lt setd setd_eq)
variable [ShLZ]
variable [ShSt]
end Go.Proofs.YtalmflgkbmnghaaGreatDoor
namespace Go.Proofs.YtalmflgkbmnghaaGreatDoor
open Go Go.RowKit Tw
open Tf (dg R R_pos R_le R_succ dg_of_lt setd setd_eq)
end Go.Proofs.YtalmflgkbmnghaaGreatDoor
