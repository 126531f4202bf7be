/-
  NARROWER THAN 'FOR EVERY INPUT', by the rows' own cells (each row's printed sentence says how): SlotTells: laid · SlotNames: laid · SlotBack: laid · SlotAll: laid · SlotOrder: laid · SlotHeld: laid · SlotWrong: laid.
  DERIVED. THE GIVEN ROWS OF THIS SEAT. 7 by the template 'for every input the law returns true; each argument reads behind the call as it read before'; 0 by the template 'total and deterministic' (their statements: YtlinjngifacmoaaDoorTotals.lean).
  GIVEN WITH THE SEED: the statements are not yours to turn. If you find one false, say at which input.
  Laid BY PROGRAM, IN A SANDBOX (cutbox-rows.mjs): the forced cells as the released guide's own fill.sh prints them over the translation d41e1ddf76cfb3f6… (all of the seat's roots in one cut). By AI agents, Wed Nov 11 2026. No macro, syntax, notation, axiom, sorry.
-/
import Derived.Test.YtlinjngifacmoaaDoorChecked
import GoSem.Claim
import GoSem.ClaimJoined
import GoSem.ClaimMapViews
import Derived.JoinedTies
import Derived.KernelRfl
namespace Go.Proofs.YtlinjngifacmoaaDoor
/- THE CELL 'sum', in the pinned program and in every row, IS THE sha256 OF THE DUMP (.gsa) THAT YtlinjngifacmoaaDoorProg.lean LOADS. Nothing in Lean hashes anything: it is a label: what it is worth is what the hold of that sum in a sandbox is worth. -/
noncomputable def Tryd.pinned : Pinned := { name := "ytlinjngifacmoaadoor", sum := "d41e1ddf76cfb3f6fa5043fdcedeb4ca1e60c4d30ee789f601624a37bceee1b1", checked := Tryd.checked }
namespace Rows
def none {H : Type} : Left H := { results := [], args := [] }

/- WHAT THE LISTED PACKAGE-LEVEL VARIABLES READ AS WHEN THE CALL BEGINS. Each datum BY PROGRAM (the guide's laid-datum.mjs) off the statement by which the dump's own 'gosem.cut.vars' lays the variable. In a bare row this is a premise. The card (YtlinjngifacmoaaDoorCards.lean) ties it to the program's text. -/
def laid_twistlock_slot_codes {H : Type} : DataW H := .agg [.lit (.int .i64 2), .lit (.int .i64 1), .lit (.int .i64 3)]

/-- 'twistlocklaw08.SlotTells': WHATEVER THE INPUT: true; the input reads as it did. -/
def slotTellsSpec : ChangeSpec := { name := "slotTells", fn := fun _ => fun
  | [d1, d2, d3, d4, d5] => { results := [.lit (.bool true)], args := [d1, d2, d3, d4, d5] }
  | _ => none }
def slotTellsRow : OpenClaim := { program := "ytlinjngifacmoaadoor", sum := "d41e1ddf76cfb3f6fa5043fdcedeb4ca1e60c4d30ee789f601624a37bceee1b1", func := "twistlock/twistlocklaw08.SlotTells", spec := "slotTells", unfollowed := true, recurses := true, named := ["twistlock/slot.codes"], plainKeys := false, apart := false, laid := [("twistlock/slot.codes", laid_twistlock_slot_codes)] }
def SlotTellsSaid : Prop := slotTellsRow.holds Tryd.pinned (OpenSpec.ofChange slotTellsSpec)

/-- ITS FALSE NEIGHBOUR: 'it returns false'. Refute it at one input. -/
def slotTellsWrong : ChangeSpec := { name := "slotTells", fn := fun _ => fun
  | [d1, d2, d3, d4, d5] => { results := [.lit (.bool false)], args := [d1, d2, d3, d4, d5] }
  | _ => none }
def SlotTellsWrongFalsely : Prop := slotTellsRow.holds Tryd.pinned (OpenSpec.ofChange slotTellsWrong)

/-- 'twistlocklaw08.SlotNames': WHATEVER THE INPUT: true; the input reads as it did. -/
def slotNamesSpec : ChangeSpec := { name := "slotNames", fn := fun _ => fun
  | [d1, d2, d3] => { results := [.lit (.bool true)], args := [d1, d2, d3] }
  | _ => none }
def slotNamesRow : OpenClaim := { program := "ytlinjngifacmoaadoor", sum := "d41e1ddf76cfb3f6fa5043fdcedeb4ca1e60c4d30ee789f601624a37bceee1b1", func := "twistlock/twistlocklaw08.SlotNames", spec := "slotNames", unfollowed := true, recurses := true, named := ["twistlock/slot.codes"], plainKeys := false, apart := false, laid := [("twistlock/slot.codes", laid_twistlock_slot_codes)] }
def SlotNamesSaid : Prop := slotNamesRow.holds Tryd.pinned (OpenSpec.ofChange slotNamesSpec)

/-- ITS FALSE NEIGHBOUR: 'it returns false'. Refute it at one input. -/
def slotNamesWrong : ChangeSpec := { name := "slotNames", fn := fun _ => fun
  | [d1, d2, d3] => { results := [.lit (.bool false)], args := [d1, d2, d3] }
  | _ => none }
def SlotNamesWrongFalsely : Prop := slotNamesRow.holds Tryd.pinned (OpenSpec.ofChange slotNamesWrong)

/-- 'twistlocklaw08.SlotBack': WHATEVER THE INPUT: true; the input reads as it did. -/
def slotBackSpec : ChangeSpec := { name := "slotBack", fn := fun _ => fun
  | [d1, d2, d3, d4] => { results := [.lit (.bool true)], args := [d1, d2, d3, d4] }
  | _ => none }
def slotBackRow : OpenClaim := { program := "ytlinjngifacmoaadoor", sum := "d41e1ddf76cfb3f6fa5043fdcedeb4ca1e60c4d30ee789f601624a37bceee1b1", func := "twistlock/twistlocklaw08.SlotBack", spec := "slotBack", unfollowed := true, recurses := true, named := ["twistlock/slot.codes"], plainKeys := false, apart := false, laid := [("twistlock/slot.codes", laid_twistlock_slot_codes)] }
def SlotBackSaid : Prop := slotBackRow.holds Tryd.pinned (OpenSpec.ofChange slotBackSpec)

/-- ITS FALSE NEIGHBOUR: 'it returns false'. Refute it at one input. -/
def slotBackWrong : ChangeSpec := { name := "slotBack", fn := fun _ => fun
  | [d1, d2, d3, d4] => { results := [.lit (.bool false)], args := [d1, d2, d3, d4] }
  | _ => none }
def SlotBackWrongFalsely : Prop := slotBackRow.holds Tryd.pinned (OpenSpec.ofChange slotBackWrong)

/-- 'twistlocklaw08.SlotAll': WHATEVER THE INPUT: true; the input reads as it did. -/
def slotAllSpec : ChangeSpec := { name := "slotAll", fn := fun _ => fun
  | [d1, d2, d3] => { results := [.lit (.bool true)], args := [d1, d2, d3] }
  | _ => none }
def slotAllRow : OpenClaim := { program := "ytlinjngifacmoaadoor", sum := "d41e1ddf76cfb3f6fa5043fdcedeb4ca1e60c4d30ee789f601624a37bceee1b1", func := "twistlock/twistlocklaw08.SlotAll", spec := "slotAll", unfollowed := true, recurses := true, named := ["twistlock/slot.codes"], plainKeys := false, apart := false, laid := [("twistlock/slot.codes", laid_twistlock_slot_codes)] }
def SlotAllSaid : Prop := slotAllRow.holds Tryd.pinned (OpenSpec.ofChange slotAllSpec)

/-- ITS FALSE NEIGHBOUR: 'it returns false'. Refute it at one input. -/
def slotAllWrong : ChangeSpec := { name := "slotAll", fn := fun _ => fun
  | [d1, d2, d3] => { results := [.lit (.bool false)], args := [d1, d2, d3] }
  | _ => none }
def SlotAllWrongFalsely : Prop := slotAllRow.holds Tryd.pinned (OpenSpec.ofChange slotAllWrong)

/-- 'twistlocklaw08.SlotOrder': WHATEVER THE INPUT: true; the input reads as it did. -/
def slotOrderSpec : ChangeSpec := { name := "slotOrder", fn := fun _ => fun
  | [d1, d2, d3, d4] => { results := [.lit (.bool true)], args := [d1, d2, d3, d4] }
  | _ => none }
def slotOrderRow : OpenClaim := { program := "ytlinjngifacmoaadoor", sum := "d41e1ddf76cfb3f6fa5043fdcedeb4ca1e60c4d30ee789f601624a37bceee1b1", func := "twistlock/twistlocklaw08.SlotOrder", spec := "slotOrder", unfollowed := true, recurses := true, named := ["twistlock/slot.codes"], plainKeys := false, apart := false, laid := [("twistlock/slot.codes", laid_twistlock_slot_codes)] }
def SlotOrderSaid : Prop := slotOrderRow.holds Tryd.pinned (OpenSpec.ofChange slotOrderSpec)

/-- ITS FALSE NEIGHBOUR: 'it returns false'. Refute it at one input. -/
def slotOrderWrong : ChangeSpec := { name := "slotOrder", fn := fun _ => fun
  | [d1, d2, d3, d4] => { results := [.lit (.bool false)], args := [d1, d2, d3, d4] }
  | _ => none }
def SlotOrderWrongFalsely : Prop := slotOrderRow.holds Tryd.pinned (OpenSpec.ofChange slotOrderWrong)

/-- 'twistlocklaw08.SlotHeld': WHATEVER THE INPUT: true; the input reads as it did. -/
def slotHeldSpec : ChangeSpec := { name := "slotHeld", fn := fun _ => fun
  | [d1, d2, d3] => { results := [.lit (.bool true)], args := [d1, d2, d3] }
  | _ => none }
def slotHeldRow : OpenClaim := { program := "ytlinjngifacmoaadoor", sum := "d41e1ddf76cfb3f6fa5043fdcedeb4ca1e60c4d30ee789f601624a37bceee1b1", func := "twistlock/twistlocklaw08.SlotHeld", spec := "slotHeld", unfollowed := true, recurses := true, named := ["twistlock/slot.codes"], plainKeys := false, apart := false, laid := [("twistlock/slot.codes", laid_twistlock_slot_codes)] }
def SlotHeldSaid : Prop := slotHeldRow.holds Tryd.pinned (OpenSpec.ofChange slotHeldSpec)

/-- ITS FALSE NEIGHBOUR: 'it returns false'. Refute it at one input. -/
def slotHeldWrong : ChangeSpec := { name := "slotHeld", fn := fun _ => fun
  | [d1, d2, d3] => { results := [.lit (.bool false)], args := [d1, d2, d3] }
  | _ => none }
def SlotHeldWrongFalsely : Prop := slotHeldRow.holds Tryd.pinned (OpenSpec.ofChange slotHeldWrong)

/-- 'twistlocklaw08.SlotWrong': WHATEVER THE INPUT: true; the input reads as it did. -/
def slotWrongSpec : ChangeSpec := { name := "slotWrong", fn := fun _ => fun
  | [d1, d2, d3, d4, d5] => { results := [.lit (.bool true)], args := [d1, d2, d3, d4, d5] }
  | _ => none }
def slotWrongRow : OpenClaim := { program := "ytlinjngifacmoaadoor", sum := "d41e1ddf76cfb3f6fa5043fdcedeb4ca1e60c4d30ee789f601624a37bceee1b1", func := "twistlock/twistlocklaw08.SlotWrong", spec := "slotWrong", unfollowed := true, recurses := true, named := ["twistlock/slot.codes"], plainKeys := false, apart := false, laid := [("twistlock/slot.codes", laid_twistlock_slot_codes)] }
def SlotWrongSaid : Prop := slotWrongRow.holds Tryd.pinned (OpenSpec.ofChange slotWrongSpec)

/-- ITS FALSE NEIGHBOUR: 'it returns false'. Refute it at one input. -/
def slotWrongWrong : ChangeSpec := { name := "slotWrong", fn := fun _ => fun
  | [d1, d2, d3, d4, d5] => { results := [.lit (.bool false)], args := [d1, d2, d3, d4, d5] }
  | _ => none }
def SlotWrongWrongFalsely : Prop := slotWrongRow.holds Tryd.pinned (OpenSpec.ofChange slotWrongWrong)

/- THE SECOND FORM. 'bulk': how many values and letters a reading holds, each counted each time it is reached (what is shared counts as often as it is met; a slice's spare places count too). A statement '..UptoSaid' is the law's where the arguments, and the package variables that the reading takes, are together of bulk at most 1048576: NARROWER than '..Said'. Prove '..Said' where nothing that the law and all that it calls make is longer than what came in: it says more and counts as full. Else prove '..UptoSaid'. A law counts once. -/
mutual
def uptoBulk {H : Type} : DataW H → Nat
  | .lit (.string bytes) => bytes.length + 1
  | .lit _ => 1
  | .nil => 1
  | .ptr d => uptoBulk d + 1
  | .slice elems spare => uptoBulkAll elems + uptoBulkAll spare + 1
  | .agg parts => uptoBulkAll parts + 1
  | .iface _ d => uptoBulk d + 1
  | .map entries => uptoBulkEntries entries + 1
  | .held _ => 1
def uptoBulkAll {H : Type} : List (DataW H) → Nat
  | [] => 0
  | d :: r => uptoBulk d + uptoBulkAll r
def uptoBulkEntries {H : Type} : List (Lit × DataW H) → Nat
  | [] => 0
  | x :: r => uptoBulkEntry x + uptoBulkEntries r
def uptoBulkEntry {H : Type} : Lit × DataW H → Nat
  | (.string bytes, d) => bytes.length + uptoBulk d + 1
  | (_, d) => uptoBulk d + 1
 end
def uptoSmall : (H : Type) → List (DataW H) → Bool := fun _ ds => decide (uptoBulkAll ds ≤ 1048576)
def OpenSpec.upto (s : _root_.Go.ChangeSpec) : _root_.Go.OpenSpec := { _root_.Go.OpenSpec.ofChange s with cond := some uptoSmall }

/-- 'twistlocklaw08.SlotTells', WHERE WHAT IT READS IS OF BULK AT MOST 1048576: true; the input reads as it did. -/
def slotTellsUptoRow : OpenClaim := { program := "ytlinjngifacmoaadoor", sum := "d41e1ddf76cfb3f6fa5043fdcedeb4ca1e60c4d30ee789f601624a37bceee1b1", func := "twistlock/twistlocklaw08.SlotTells", spec := "slotTells", unfollowed := true, recurses := true, named := ["twistlock/slot.codes"], plainKeys := false, apart := false, laid := [("twistlock/slot.codes", laid_twistlock_slot_codes)], narrowed := true }
def SlotTellsUptoSaid : Prop := slotTellsUptoRow.holds Tryd.pinned (OpenSpec.upto slotTellsSpec)

/-- 'twistlocklaw08.SlotNames', WHERE WHAT IT READS IS OF BULK AT MOST 1048576: true; the input reads as it did. -/
def slotNamesUptoRow : OpenClaim := { program := "ytlinjngifacmoaadoor", sum := "d41e1ddf76cfb3f6fa5043fdcedeb4ca1e60c4d30ee789f601624a37bceee1b1", func := "twistlock/twistlocklaw08.SlotNames", spec := "slotNames", unfollowed := true, recurses := true, named := ["twistlock/slot.codes"], plainKeys := false, apart := false, laid := [("twistlock/slot.codes", laid_twistlock_slot_codes)], narrowed := true }
def SlotNamesUptoSaid : Prop := slotNamesUptoRow.holds Tryd.pinned (OpenSpec.upto slotNamesSpec)

/-- 'twistlocklaw08.SlotBack', WHERE WHAT IT READS IS OF BULK AT MOST 1048576: true; the input reads as it did. -/
def slotBackUptoRow : OpenClaim := { program := "ytlinjngifacmoaadoor", sum := "d41e1ddf76cfb3f6fa5043fdcedeb4ca1e60c4d30ee789f601624a37bceee1b1", func := "twistlock/twistlocklaw08.SlotBack", spec := "slotBack", unfollowed := true, recurses := true, named := ["twistlock/slot.codes"], plainKeys := false, apart := false, laid := [("twistlock/slot.codes", laid_twistlock_slot_codes)], narrowed := true }
def SlotBackUptoSaid : Prop := slotBackUptoRow.holds Tryd.pinned (OpenSpec.upto slotBackSpec)

/-- 'twistlocklaw08.SlotAll', WHERE WHAT IT READS IS OF BULK AT MOST 1048576: true; the input reads as it did. -/
def slotAllUptoRow : OpenClaim := { program := "ytlinjngifacmoaadoor", sum := "d41e1ddf76cfb3f6fa5043fdcedeb4ca1e60c4d30ee789f601624a37bceee1b1", func := "twistlock/twistlocklaw08.SlotAll", spec := "slotAll", unfollowed := true, recurses := true, named := ["twistlock/slot.codes"], plainKeys := false, apart := false, laid := [("twistlock/slot.codes", laid_twistlock_slot_codes)], narrowed := true }
def SlotAllUptoSaid : Prop := slotAllUptoRow.holds Tryd.pinned (OpenSpec.upto slotAllSpec)

/-- 'twistlocklaw08.SlotOrder', WHERE WHAT IT READS IS OF BULK AT MOST 1048576: true; the input reads as it did. -/
def slotOrderUptoRow : OpenClaim := { program := "ytlinjngifacmoaadoor", sum := "d41e1ddf76cfb3f6fa5043fdcedeb4ca1e60c4d30ee789f601624a37bceee1b1", func := "twistlock/twistlocklaw08.SlotOrder", spec := "slotOrder", unfollowed := true, recurses := true, named := ["twistlock/slot.codes"], plainKeys := false, apart := false, laid := [("twistlock/slot.codes", laid_twistlock_slot_codes)], narrowed := true }
def SlotOrderUptoSaid : Prop := slotOrderUptoRow.holds Tryd.pinned (OpenSpec.upto slotOrderSpec)

/-- 'twistlocklaw08.SlotHeld', WHERE WHAT IT READS IS OF BULK AT MOST 1048576: true; the input reads as it did. -/
def slotHeldUptoRow : OpenClaim := { program := "ytlinjngifacmoaadoor", sum := "d41e1ddf76cfb3f6fa5043fdcedeb4ca1e60c4d30ee789f601624a37bceee1b1", func := "twistlock/twistlocklaw08.SlotHeld", spec := "slotHeld", unfollowed := true, recurses := true, named := ["twistlock/slot.codes"], plainKeys := false, apart := false, laid := [("twistlock/slot.codes", laid_twistlock_slot_codes)], narrowed := true }
def SlotHeldUptoSaid : Prop := slotHeldUptoRow.holds Tryd.pinned (OpenSpec.upto slotHeldSpec)

/-- 'twistlocklaw08.SlotWrong', WHERE WHAT IT READS IS OF BULK AT MOST 1048576: true; the input reads as it did. -/
def slotWrongUptoRow : OpenClaim := { program := "ytlinjngifacmoaadoor", sum := "d41e1ddf76cfb3f6fa5043fdcedeb4ca1e60c4d30ee789f601624a37bceee1b1", func := "twistlock/twistlocklaw08.SlotWrong", spec := "slotWrong", unfollowed := true, recurses := true, named := ["twistlock/slot.codes"], plainKeys := false, apart := false, laid := [("twistlock/slot.codes", laid_twistlock_slot_codes)], narrowed := true }
def SlotWrongUptoSaid : Prop := slotWrongUptoRow.holds Tryd.pinned (OpenSpec.upto slotWrongSpec)

end Rows
end Go.Proofs.YtlinjngifacmoaaDoor
