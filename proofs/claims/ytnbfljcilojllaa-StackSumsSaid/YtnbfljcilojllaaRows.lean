/-
  No cell of these rows narrows 'for every input' (looked for: loops, veiled, ifaces, maps, wideKeys, modest, calm, conditions, laid).
  DERIVED. THE GIVEN ROWS OF THIS SEAT. 6 by the template 'for every input the law returns true; each argument reads behind the call as it read before'; 0 by the template 'total and deterministic' (their statements: YtnbfljcilojllaaTotals.lean).
  GIVEN WITH THE SEED: the statements are not yours to turn. If you find one false, say at which input.
  Laid BY PROGRAM, IN A SANDBOX (cutbox-rows.mjs): the forced cells as the released guide's own fill.sh prints them over the translation 9cc680d610dd4462… (all of the seat's roots in one cut). By AI agents, Wed Nov 11 2026. No macro, syntax, notation, axiom, sorry.
-/
import Derived.Test.YtnbfljcilojllaaChecked
import GoSem.Claim
import GoSem.ClaimJoined
import GoSem.ClaimMapViews
import Derived.JoinedTies
import Derived.KernelRfl
namespace Go.Proofs.Ytnbfljcilojllaa
/- THE CELL 'sum', in the pinned program and in every row, IS THE sha256 OF THE DUMP (.gsa) THAT YtnbfljcilojllaaProg.lean LOADS. Nothing in Lean hashes anything: it is a label: what it is worth is what the hold of that sum in a sandbox is worth. -/
noncomputable def Try.pinned : Pinned := { name := "ytnbfljcilojllaa", sum := "9cc680d610dd4462ccaf4c5e72d51fb8410a8c60041c811533e15ba8ddc7a6cd", checked := Try.checked }
namespace Rows
def none {H : Type} : Left H := { results := [], args := [] }

/-- 'twistlocklaw10.StackSmall': WHATEVER THE INPUT: true; the input reads as it did. -/
def stackSmallSpec : ChangeSpec := { name := "stackSmall", fn := fun _ => fun
  | [] => { results := [.lit (.bool true)], args := [] }
  | _ => none }
def stackSmallRow : OpenClaim := { program := "ytnbfljcilojllaa", sum := "9cc680d610dd4462ccaf4c5e72d51fb8410a8c60041c811533e15ba8ddc7a6cd", func := "twistlock/twistlocklaw10.StackSmall", spec := "stackSmall", unfollowed := true, recurses := true, plainKeys := false, apart := false }
def StackSmallSaid : Prop := stackSmallRow.holds Try.pinned (OpenSpec.ofChange stackSmallSpec)

/-- ITS FALSE NEIGHBOUR: 'it returns false'. Refute it at one input. -/
def stackSmallWrong : ChangeSpec := { name := "stackSmall", fn := fun _ => fun
  | [] => { results := [.lit (.bool false)], args := [] }
  | _ => none }
def StackSmallWrongFalsely : Prop := stackSmallRow.holds Try.pinned (OpenSpec.ofChange stackSmallWrong)

/-- 'twistlocklaw10.StackRoom': WHATEVER THE INPUT: true; the input reads as it did. -/
def stackRoomSpec : ChangeSpec := { name := "stackRoom", fn := fun _ => fun
  | [d1, d2, d3, d4, d5] => { results := [.lit (.bool true)], args := [d1, d2, d3, d4, d5] }
  | _ => none }
def stackRoomRow : OpenClaim := { program := "ytnbfljcilojllaa", sum := "9cc680d610dd4462ccaf4c5e72d51fb8410a8c60041c811533e15ba8ddc7a6cd", func := "twistlock/twistlocklaw10.StackRoom", spec := "stackRoom", unfollowed := true, recurses := true, plainKeys := false, apart := false }
def StackRoomSaid : Prop := stackRoomRow.holds Try.pinned (OpenSpec.ofChange stackRoomSpec)

/-- ITS FALSE NEIGHBOUR: 'it returns false'. Refute it at one input. -/
def stackRoomWrong : ChangeSpec := { name := "stackRoom", fn := fun _ => fun
  | [d1, d2, d3, d4, d5] => { results := [.lit (.bool false)], args := [d1, d2, d3, d4, d5] }
  | _ => none }
def StackRoomWrongFalsely : Prop := stackRoomRow.holds Try.pinned (OpenSpec.ofChange stackRoomWrong)

/-- 'twistlocklaw10.StackSums': WHATEVER THE INPUT: true; the input reads as it did. -/
def stackSumsSpec : ChangeSpec := { name := "stackSums", fn := fun _ => fun
  | [d1, d2, d3, d4] => { results := [.lit (.bool true)], args := [d1, d2, d3, d4] }
  | _ => none }
def stackSumsRow : OpenClaim := { program := "ytnbfljcilojllaa", sum := "9cc680d610dd4462ccaf4c5e72d51fb8410a8c60041c811533e15ba8ddc7a6cd", func := "twistlock/twistlocklaw10.StackSums", spec := "stackSums", unfollowed := true, recurses := true, plainKeys := false, apart := false }
def StackSumsSaid : Prop := stackSumsRow.holds Try.pinned (OpenSpec.ofChange stackSumsSpec)

/-- ITS FALSE NEIGHBOUR: 'it returns false'. Refute it at one input. -/
def stackSumsWrong : ChangeSpec := { name := "stackSums", fn := fun _ => fun
  | [d1, d2, d3, d4] => { results := [.lit (.bool false)], args := [d1, d2, d3, d4] }
  | _ => none }
def StackSumsWrongFalsely : Prop := stackSumsRow.holds Try.pinned (OpenSpec.ofChange stackSumsWrong)

/-- 'twistlocklaw10.StackLess': WHATEVER THE INPUT: true; the input reads as it did. -/
def stackLessSpec : ChangeSpec := { name := "stackLess", fn := fun _ => fun
  | [d1, d2, d3, d4] => { results := [.lit (.bool true)], args := [d1, d2, d3, d4] }
  | _ => none }
def stackLessRow : OpenClaim := { program := "ytnbfljcilojllaa", sum := "9cc680d610dd4462ccaf4c5e72d51fb8410a8c60041c811533e15ba8ddc7a6cd", func := "twistlock/twistlocklaw10.StackLess", spec := "stackLess", unfollowed := true, recurses := true, plainKeys := false, apart := false }
def StackLessSaid : Prop := stackLessRow.holds Try.pinned (OpenSpec.ofChange stackLessSpec)

/-- ITS FALSE NEIGHBOUR: 'it returns false'. Refute it at one input. -/
def stackLessWrong : ChangeSpec := { name := "stackLess", fn := fun _ => fun
  | [d1, d2, d3, d4] => { results := [.lit (.bool false)], args := [d1, d2, d3, d4] }
  | _ => none }
def StackLessWrongFalsely : Prop := stackLessRow.holds Try.pinned (OpenSpec.ofChange stackLessWrong)

/-- 'twistlocklaw10.StackTops': WHATEVER THE INPUT: true; the input reads as it did. -/
def stackTopsSpec : ChangeSpec := { name := "stackTops", fn := fun _ => fun
  | [d1, d2, d3, d4] => { results := [.lit (.bool true)], args := [d1, d2, d3, d4] }
  | _ => none }
def stackTopsRow : OpenClaim := { program := "ytnbfljcilojllaa", sum := "9cc680d610dd4462ccaf4c5e72d51fb8410a8c60041c811533e15ba8ddc7a6cd", func := "twistlock/twistlocklaw10.StackTops", spec := "stackTops", unfollowed := true, recurses := true, plainKeys := false, apart := false }
def StackTopsSaid : Prop := stackTopsRow.holds Try.pinned (OpenSpec.ofChange stackTopsSpec)

/-- ITS FALSE NEIGHBOUR: 'it returns false'. Refute it at one input. -/
def stackTopsWrong : ChangeSpec := { name := "stackTops", fn := fun _ => fun
  | [d1, d2, d3, d4] => { results := [.lit (.bool false)], args := [d1, d2, d3, d4] }
  | _ => none }
def StackTopsWrongFalsely : Prop := stackTopsRow.holds Try.pinned (OpenSpec.ofChange stackTopsWrong)

/-- 'twistlocklaw10.StackWrong': WHATEVER THE INPUT: true; the input reads as it did. -/
def stackWrongSpec : ChangeSpec := { name := "stackWrong", fn := fun _ => fun
  | [d1, d2, d3, d4, d5] => { results := [.lit (.bool true)], args := [d1, d2, d3, d4, d5] }
  | _ => none }
def stackWrongRow : OpenClaim := { program := "ytnbfljcilojllaa", sum := "9cc680d610dd4462ccaf4c5e72d51fb8410a8c60041c811533e15ba8ddc7a6cd", func := "twistlock/twistlocklaw10.StackWrong", spec := "stackWrong", unfollowed := true, recurses := true, plainKeys := false, apart := false }
def StackWrongSaid : Prop := stackWrongRow.holds Try.pinned (OpenSpec.ofChange stackWrongSpec)

/-- ITS FALSE NEIGHBOUR: 'it returns false'. Refute it at one input. -/
def stackWrongWrong : ChangeSpec := { name := "stackWrong", fn := fun _ => fun
  | [d1, d2, d3, d4, d5] => { results := [.lit (.bool false)], args := [d1, d2, d3, d4, d5] }
  | _ => none }
def StackWrongWrongFalsely : Prop := stackWrongRow.holds Try.pinned (OpenSpec.ofChange stackWrongWrong)

/- THE SECOND FORM. 'bulk': how many values and letters a reading holds, each counted each time it is reached (what is shared counts as often as it is met; a slice's spare places count too). A statement '..UptoSaid' is the law's where the arguments, and the package variables that the reading takes, are together of bulk at most 1048576: NARROWER than '..Said'. Prove '..Said' where nothing that the law and all that it calls make is longer than what came in: it says more and counts as full. Else prove '..UptoSaid'. A law counts once. -/
mutual
def uptoBulk {H : Type} : DataW H → Nat
  | .lit (.string bytes) => bytes.length + 1
  | .lit _ => 1
  | .nil => 1
  | .ptr d => uptoBulk d + 1
  | .slice elems spare => uptoBulkAll elems + uptoBulkAll spare + 1
  | .agg parts => uptoBulkAll parts + 1
  | .iface _ d => uptoBulk d + 1
  | .map entries => uptoBulkEntries entries + 1
  | .held _ => 1
def uptoBulkAll {H : Type} : List (DataW H) → Nat
  | [] => 0
  | d :: r => uptoBulk d + uptoBulkAll r
def uptoBulkEntries {H : Type} : List (Lit × DataW H) → Nat
  | [] => 0
  | x :: r => uptoBulkEntry x + uptoBulkEntries r
def uptoBulkEntry {H : Type} : Lit × DataW H → Nat
  | (.string bytes, d) => bytes.length + uptoBulk d + 1
  | (_, d) => uptoBulk d + 1
 end
def uptoSmall : (H : Type) → List (DataW H) → Bool := fun _ ds => decide (uptoBulkAll ds ≤ 1048576)
def OpenSpec.upto (s : _root_.Go.ChangeSpec) : _root_.Go.OpenSpec := { _root_.Go.OpenSpec.ofChange s with cond := some uptoSmall }

/-- 'twistlocklaw10.StackSmall', WHERE WHAT IT READS IS OF BULK AT MOST 1048576: true; the input reads as it did. -/
def stackSmallUptoRow : OpenClaim := { program := "ytnbfljcilojllaa", sum := "9cc680d610dd4462ccaf4c5e72d51fb8410a8c60041c811533e15ba8ddc7a6cd", func := "twistlock/twistlocklaw10.StackSmall", spec := "stackSmall", unfollowed := true, recurses := true, plainKeys := false, apart := false, narrowed := true }
def StackSmallUptoSaid : Prop := stackSmallUptoRow.holds Try.pinned (OpenSpec.upto stackSmallSpec)

/-- 'twistlocklaw10.StackRoom', WHERE WHAT IT READS IS OF BULK AT MOST 1048576: true; the input reads as it did. -/
def stackRoomUptoRow : OpenClaim := { program := "ytnbfljcilojllaa", sum := "9cc680d610dd4462ccaf4c5e72d51fb8410a8c60041c811533e15ba8ddc7a6cd", func := "twistlock/twistlocklaw10.StackRoom", spec := "stackRoom", unfollowed := true, recurses := true, plainKeys := false, apart := false, narrowed := true }
def StackRoomUptoSaid : Prop := stackRoomUptoRow.holds Try.pinned (OpenSpec.upto stackRoomSpec)

/-- 'twistlocklaw10.StackSums', WHERE WHAT IT READS IS OF BULK AT MOST 1048576: true; the input reads as it did. -/
def stackSumsUptoRow : OpenClaim := { program := "ytnbfljcilojllaa", sum := "9cc680d610dd4462ccaf4c5e72d51fb8410a8c60041c811533e15ba8ddc7a6cd", func := "twistlock/twistlocklaw10.StackSums", spec := "stackSums", unfollowed := true, recurses := true, plainKeys := false, apart := false, narrowed := true }
def StackSumsUptoSaid : Prop := stackSumsUptoRow.holds Try.pinned (OpenSpec.upto stackSumsSpec)

/-- 'twistlocklaw10.StackLess', WHERE WHAT IT READS IS OF BULK AT MOST 1048576: true; the input reads as it did. -/
def stackLessUptoRow : OpenClaim := { program := "ytnbfljcilojllaa", sum := "9cc680d610dd4462ccaf4c5e72d51fb8410a8c60041c811533e15ba8ddc7a6cd", func := "twistlock/twistlocklaw10.StackLess", spec := "stackLess", unfollowed := true, recurses := true, plainKeys := false, apart := false, narrowed := true }
def StackLessUptoSaid : Prop := stackLessUptoRow.holds Try.pinned (OpenSpec.upto stackLessSpec)

/-- 'twistlocklaw10.StackTops', WHERE WHAT IT READS IS OF BULK AT MOST 1048576: true; the input reads as it did. -/
def stackTopsUptoRow : OpenClaim := { program := "ytnbfljcilojllaa", sum := "9cc680d610dd4462ccaf4c5e72d51fb8410a8c60041c811533e15ba8ddc7a6cd", func := "twistlock/twistlocklaw10.StackTops", spec := "stackTops", unfollowed := true, recurses := true, plainKeys := false, apart := false, narrowed := true }
def StackTopsUptoSaid : Prop := stackTopsUptoRow.holds Try.pinned (OpenSpec.upto stackTopsSpec)

/-- 'twistlocklaw10.StackWrong', WHERE WHAT IT READS IS OF BULK AT MOST 1048576: true; the input reads as it did. -/
def stackWrongUptoRow : OpenClaim := { program := "ytnbfljcilojllaa", sum := "9cc680d610dd4462ccaf4c5e72d51fb8410a8c60041c811533e15ba8ddc7a6cd", func := "twistlock/twistlocklaw10.StackWrong", spec := "stackWrong", unfollowed := true, recurses := true, plainKeys := false, apart := false, narrowed := true }
def StackWrongUptoSaid : Prop := stackWrongUptoRow.holds Try.pinned (OpenSpec.upto stackWrongSpec)

end Rows
end Go.Proofs.Ytnbfljcilojllaa
