/-
  No cell of these rows narrows 'for every input' (looked for: loops, veiled, ifaces, maps, wideKeys, modest, calm, conditions, laid).
  DERIVED. THE GIVEN ROWS OF THIS SEAT. 6 by the template 'for every input the law returns true; each argument reads behind the call as it read before'; 0 by the template 'total and deterministic' (their statements: YtldhjhjomokkgaaTotals.lean).
  GIVEN WITH THE SEED: the statements are not yours to turn. If you find one false, say at which input.
  Laid BY PROGRAM, IN A SANDBOX (cutbox-rows.mjs): the forced cells as the released guide's own fill.sh prints them over the translation 487874e020c85722… (all of the seat's roots in one cut). By AI agents, Wed Nov 11 2026. No macro, syntax, notation, axiom, sorry.
-/
import Derived.Test.YtldhjhjomokkgaaChecked
import GoSem.Claim
import GoSem.ClaimJoined
import GoSem.ClaimMapViews
import Derived.JoinedTies
import Derived.KernelRfl
namespace Go.Proofs.Ytldhjhjomokkgaa
/- THE CELL 'sum', in the pinned program and in every row, IS THE sha256 OF THE DUMP (.gsa) THAT YtldhjhjomokkgaaProg.lean LOADS. Nothing in Lean hashes anything: it is a label: what it is worth is what the hold of that sum in a sandbox is worth. -/
noncomputable def Try.pinned : Pinned := { name := "ytldhjhjomokkgaa", sum := "487874e020c8572285b263634acf790829e260c130ed222f00d7382d8d58707a", checked := Try.checked }
namespace Rows
def none {H : Type} : Left H := { results := [], args := [] }

/-- 'twistlocklaw07.ShipTells': WHATEVER THE INPUT: true; the input reads as it did. -/
def shipTellsSpec : ChangeSpec := { name := "shipTells", fn := fun _ => fun
  | [d1, d2, d3, d4, d5] => { results := [.lit (.bool true)], args := [d1, d2, d3, d4, d5] }
  | _ => none }
def shipTellsRow : OpenClaim := { program := "ytldhjhjomokkgaa", sum := "487874e020c8572285b263634acf790829e260c130ed222f00d7382d8d58707a", func := "twistlock/twistlocklaw07.ShipTells", spec := "shipTells", unfollowed := true, recurses := true, plainKeys := false, apart := false }
def ShipTellsSaid : Prop := shipTellsRow.holds Try.pinned (OpenSpec.ofChange shipTellsSpec)

/-- ITS FALSE NEIGHBOUR: 'it returns false'. Refute it at one input. -/
def shipTellsWrong : ChangeSpec := { name := "shipTells", fn := fun _ => fun
  | [d1, d2, d3, d4, d5] => { results := [.lit (.bool false)], args := [d1, d2, d3, d4, d5] }
  | _ => none }
def ShipTellsWrongFalsely : Prop := shipTellsRow.holds Try.pinned (OpenSpec.ofChange shipTellsWrong)

/-- 'twistlocklaw07.ShipLies': WHATEVER THE INPUT: true; the input reads as it did. -/
def shipLiesSpec : ChangeSpec := { name := "shipLies", fn := fun _ => fun
  | [d1, d2, d3] => { results := [.lit (.bool true)], args := [d1, d2, d3] }
  | _ => none }
def shipLiesRow : OpenClaim := { program := "ytldhjhjomokkgaa", sum := "487874e020c8572285b263634acf790829e260c130ed222f00d7382d8d58707a", func := "twistlock/twistlocklaw07.ShipLies", spec := "shipLies", unfollowed := true, recurses := true, plainKeys := false, apart := false }
def ShipLiesSaid : Prop := shipLiesRow.holds Try.pinned (OpenSpec.ofChange shipLiesSpec)

/-- ITS FALSE NEIGHBOUR: 'it returns false'. Refute it at one input. -/
def shipLiesWrong : ChangeSpec := { name := "shipLies", fn := fun _ => fun
  | [d1, d2, d3] => { results := [.lit (.bool false)], args := [d1, d2, d3] }
  | _ => none }
def ShipLiesWrongFalsely : Prop := shipLiesRow.holds Try.pinned (OpenSpec.ofChange shipLiesWrong)

/-- 'twistlocklaw07.ShipCovers': WHATEVER THE INPUT: true; the input reads as it did. -/
def shipCoversSpec : ChangeSpec := { name := "shipCovers", fn := fun _ => fun
  | [d1, d2] => { results := [.lit (.bool true)], args := [d1, d2] }
  | _ => none }
def shipCoversRow : OpenClaim := { program := "ytldhjhjomokkgaa", sum := "487874e020c8572285b263634acf790829e260c130ed222f00d7382d8d58707a", func := "twistlock/twistlocklaw07.ShipCovers", spec := "shipCovers", unfollowed := true, recurses := true, plainKeys := false, apart := false }
def ShipCoversSaid : Prop := shipCoversRow.holds Try.pinned (OpenSpec.ofChange shipCoversSpec)

/-- ITS FALSE NEIGHBOUR: 'it returns false'. Refute it at one input. -/
def shipCoversWrong : ChangeSpec := { name := "shipCovers", fn := fun _ => fun
  | [d1, d2] => { results := [.lit (.bool false)], args := [d1, d2] }
  | _ => none }
def ShipCoversWrongFalsely : Prop := shipCoversRow.holds Try.pinned (OpenSpec.ofChange shipCoversWrong)

/-- 'twistlocklaw07.ShipBeside': WHATEVER THE INPUT: true; the input reads as it did. -/
def shipBesideSpec : ChangeSpec := { name := "shipBeside", fn := fun _ => fun
  | [d1, d2, d3, d4, d5] => { results := [.lit (.bool true)], args := [d1, d2, d3, d4, d5] }
  | _ => none }
def shipBesideRow : OpenClaim := { program := "ytldhjhjomokkgaa", sum := "487874e020c8572285b263634acf790829e260c130ed222f00d7382d8d58707a", func := "twistlock/twistlocklaw07.ShipBeside", spec := "shipBeside", unfollowed := true, recurses := true, plainKeys := false, apart := false }
def ShipBesideSaid : Prop := shipBesideRow.holds Try.pinned (OpenSpec.ofChange shipBesideSpec)

/-- ITS FALSE NEIGHBOUR: 'it returns false'. Refute it at one input. -/
def shipBesideWrong : ChangeSpec := { name := "shipBeside", fn := fun _ => fun
  | [d1, d2, d3, d4, d5] => { results := [.lit (.bool false)], args := [d1, d2, d3, d4, d5] }
  | _ => none }
def ShipBesideWrongFalsely : Prop := shipBesideRow.holds Try.pinned (OpenSpec.ofChange shipBesideWrong)

/-- 'twistlocklaw07.ShipLess': WHATEVER THE INPUT: true; the input reads as it did. -/
def shipLessSpec : ChangeSpec := { name := "shipLess", fn := fun _ => fun
  | [d1, d2, d3] => { results := [.lit (.bool true)], args := [d1, d2, d3] }
  | _ => none }
def shipLessRow : OpenClaim := { program := "ytldhjhjomokkgaa", sum := "487874e020c8572285b263634acf790829e260c130ed222f00d7382d8d58707a", func := "twistlock/twistlocklaw07.ShipLess", spec := "shipLess", unfollowed := true, recurses := true, plainKeys := false, apart := false }
def ShipLessSaid : Prop := shipLessRow.holds Try.pinned (OpenSpec.ofChange shipLessSpec)

/-- ITS FALSE NEIGHBOUR: 'it returns false'. Refute it at one input. -/
def shipLessWrong : ChangeSpec := { name := "shipLess", fn := fun _ => fun
  | [d1, d2, d3] => { results := [.lit (.bool false)], args := [d1, d2, d3] }
  | _ => none }
def ShipLessWrongFalsely : Prop := shipLessRow.holds Try.pinned (OpenSpec.ofChange shipLessWrong)

/-- 'twistlocklaw07.ShipWrong': WHATEVER THE INPUT: true; the input reads as it did. -/
def shipWrongSpec : ChangeSpec := { name := "shipWrong", fn := fun _ => fun
  | [d1, d2, d3, d4, d5] => { results := [.lit (.bool true)], args := [d1, d2, d3, d4, d5] }
  | _ => none }
def shipWrongRow : OpenClaim := { program := "ytldhjhjomokkgaa", sum := "487874e020c8572285b263634acf790829e260c130ed222f00d7382d8d58707a", func := "twistlock/twistlocklaw07.ShipWrong", spec := "shipWrong", unfollowed := true, recurses := true, plainKeys := false, apart := false }
def ShipWrongSaid : Prop := shipWrongRow.holds Try.pinned (OpenSpec.ofChange shipWrongSpec)

/-- ITS FALSE NEIGHBOUR: 'it returns false'. Refute it at one input. -/
def shipWrongWrong : ChangeSpec := { name := "shipWrong", fn := fun _ => fun
  | [d1, d2, d3, d4, d5] => { results := [.lit (.bool false)], args := [d1, d2, d3, d4, d5] }
  | _ => none }
def ShipWrongWrongFalsely : Prop := shipWrongRow.holds Try.pinned (OpenSpec.ofChange shipWrongWrong)

/- THE SECOND FORM. 'bulk': how many values and letters a reading holds, each counted each time it is reached (what is shared counts as often as it is met; a slice's spare places count too). A statement '..UptoSaid' is the law's where the arguments, and the package variables that the reading takes, are together of bulk at most 1048576: NARROWER than '..Said'. Prove '..Said' where nothing that the law and all that it calls make is longer than what came in: it says more and counts as full. Else prove '..UptoSaid'. A law counts once. -/
mutual
def uptoBulk {H : Type} : DataW H → Nat
  | .lit (.string bytes) => bytes.length + 1
  | .lit _ => 1
  | .nil => 1
  | .ptr d => uptoBulk d + 1
  | .slice elems spare => uptoBulkAll elems + uptoBulkAll spare + 1
  | .agg parts => uptoBulkAll parts + 1
  | .iface _ d => uptoBulk d + 1
  | .map entries => uptoBulkEntries entries + 1
  | .held _ => 1
def uptoBulkAll {H : Type} : List (DataW H) → Nat
  | [] => 0
  | d :: r => uptoBulk d + uptoBulkAll r
def uptoBulkEntries {H : Type} : List (Lit × DataW H) → Nat
  | [] => 0
  | x :: r => uptoBulkEntry x + uptoBulkEntries r
def uptoBulkEntry {H : Type} : Lit × DataW H → Nat
  | (.string bytes, d) => bytes.length + uptoBulk d + 1
  | (_, d) => uptoBulk d + 1
 end
def uptoSmall : (H : Type) → List (DataW H) → Bool := fun _ ds => decide (uptoBulkAll ds ≤ 1048576)
def OpenSpec.upto (s : _root_.Go.ChangeSpec) : _root_.Go.OpenSpec := { _root_.Go.OpenSpec.ofChange s with cond := some uptoSmall }

/-- 'twistlocklaw07.ShipTells', WHERE WHAT IT READS IS OF BULK AT MOST 1048576: true; the input reads as it did. -/
def shipTellsUptoRow : OpenClaim := { program := "ytldhjhjomokkgaa", sum := "487874e020c8572285b263634acf790829e260c130ed222f00d7382d8d58707a", func := "twistlock/twistlocklaw07.ShipTells", spec := "shipTells", unfollowed := true, recurses := true, plainKeys := false, apart := false, narrowed := true }
def ShipTellsUptoSaid : Prop := shipTellsUptoRow.holds Try.pinned (OpenSpec.upto shipTellsSpec)

/-- 'twistlocklaw07.ShipLies', WHERE WHAT IT READS IS OF BULK AT MOST 1048576: true; the input reads as it did. -/
def shipLiesUptoRow : OpenClaim := { program := "ytldhjhjomokkgaa", sum := "487874e020c8572285b263634acf790829e260c130ed222f00d7382d8d58707a", func := "twistlock/twistlocklaw07.ShipLies", spec := "shipLies", unfollowed := true, recurses := true, plainKeys := false, apart := false, narrowed := true }
def ShipLiesUptoSaid : Prop := shipLiesUptoRow.holds Try.pinned (OpenSpec.upto shipLiesSpec)

/-- 'twistlocklaw07.ShipCovers', WHERE WHAT IT READS IS OF BULK AT MOST 1048576: true; the input reads as it did. -/
def shipCoversUptoRow : OpenClaim := { program := "ytldhjhjomokkgaa", sum := "487874e020c8572285b263634acf790829e260c130ed222f00d7382d8d58707a", func := "twistlock/twistlocklaw07.ShipCovers", spec := "shipCovers", unfollowed := true, recurses := true, plainKeys := false, apart := false, narrowed := true }
def ShipCoversUptoSaid : Prop := shipCoversUptoRow.holds Try.pinned (OpenSpec.upto shipCoversSpec)

/-- 'twistlocklaw07.ShipBeside', WHERE WHAT IT READS IS OF BULK AT MOST 1048576: true; the input reads as it did. -/
def shipBesideUptoRow : OpenClaim := { program := "ytldhjhjomokkgaa", sum := "487874e020c8572285b263634acf790829e260c130ed222f00d7382d8d58707a", func := "twistlock/twistlocklaw07.ShipBeside", spec := "shipBeside", unfollowed := true, recurses := true, plainKeys := false, apart := false, narrowed := true }
def ShipBesideUptoSaid : Prop := shipBesideUptoRow.holds Try.pinned (OpenSpec.upto shipBesideSpec)

/-- 'twistlocklaw07.ShipLess', WHERE WHAT IT READS IS OF BULK AT MOST 1048576: true; the input reads as it did. -/
def shipLessUptoRow : OpenClaim := { program := "ytldhjhjomokkgaa", sum := "487874e020c8572285b263634acf790829e260c130ed222f00d7382d8d58707a", func := "twistlock/twistlocklaw07.ShipLess", spec := "shipLess", unfollowed := true, recurses := true, plainKeys := false, apart := false, narrowed := true }
def ShipLessUptoSaid : Prop := shipLessUptoRow.holds Try.pinned (OpenSpec.upto shipLessSpec)

/-- 'twistlocklaw07.ShipWrong', WHERE WHAT IT READS IS OF BULK AT MOST 1048576: true; the input reads as it did. -/
def shipWrongUptoRow : OpenClaim := { program := "ytldhjhjomokkgaa", sum := "487874e020c8572285b263634acf790829e260c130ed222f00d7382d8d58707a", func := "twistlock/twistlocklaw07.ShipWrong", spec := "shipWrong", unfollowed := true, recurses := true, plainKeys := false, apart := false, narrowed := true }
def ShipWrongUptoSaid : Prop := shipWrongUptoRow.holds Try.pinned (OpenSpec.upto shipWrongSpec)

end Rows
end Go.Proofs.Ytldhjhjomokkgaa
