/-
  NARROWER THAN 'FOR EVERY INPUT', by the rows' own cells (each row's printed sentence says how): BoxLists: laid · BoxSmall: laid · BoxKinds: laid · BoxStays: laid · BoxSums: laid · BoxOrder: laid · BoxFirst: laid · BoxWrong: laid.
  DERIVED. THE GIVEN ROWS OF THIS SEAT. 8 by the template 'for every input the law returns true; each argument reads behind the call as it read before'; 0 by the template 'total and deterministic' (their statements: YtllmpemmknblaaaDoorTotals.lean).
  GIVEN WITH THE SEED: the statements are not yours to turn. If you find one false, say at which input.
  Laid BY PROGRAM, IN A SANDBOX (cutbox-rows.mjs): the forced cells as the released guide's own fill.sh prints them over the translation b148d2b4bc647ac7… (all of the seat's roots in one cut). By AI agents, Wed Nov 11 2026. No macro, syntax, notation, axiom, sorry.
-/
import Derived.Test.YtllmpemmknblaaaDoorChecked
import GoSem.Claim
import GoSem.ClaimJoined
import GoSem.ClaimMapViews
import Derived.JoinedTies
import Derived.KernelRfl
namespace Go.Proofs.YtllmpemmknblaaaDoor
/- THE CELL 'sum', in the pinned program and in every row, IS THE sha256 OF THE DUMP (.gsa) THAT YtllmpemmknblaaaDoorProg.lean LOADS. Nothing in Lean hashes anything: it is a label: what it is worth is what the hold of that sum in a sandbox is worth. -/
noncomputable def Tryd.pinned : Pinned := { name := "ytllmpemmknblaaadoor", sum := "b148d2b4bc647ac7f53926b6f1bdc3d028e3f906e62c6bb293db66d3d3eca387", checked := Tryd.checked }
namespace Rows
def none {H : Type} : Left H := { results := [], args := [] }

/- WHAT THE LISTED PACKAGE-LEVEL VARIABLES READ AS WHEN THE CALL BEGINS. Each datum BY PROGRAM (the guide's laid-datum.mjs) off the statement by which the dump's own 'gosem.cut.vars' lays the variable. In a bare row this is a premise. The card (YtllmpemmknblaaaDoorCards.lean) ties it to the program's text. -/
def laid_twistlock_iso_kinds {H : Type} : DataW H := .agg [.agg [.lit (.string [50, 50, 71, 49]), .agg [.lit (.int .u8 20), .lit (.bool false), .lit (.bool false)]], .agg [.lit (.string [50, 50, 82, 49]), .agg [.lit (.int .u8 20), .lit (.bool false), .lit (.bool true)]], .agg [.lit (.string [52, 50, 71, 49]), .agg [.lit (.int .u8 40), .lit (.bool false), .lit (.bool false)]], .agg [.lit (.string [52, 50, 82, 49]), .agg [.lit (.int .u8 40), .lit (.bool false), .lit (.bool true)]], .agg [.lit (.string [52, 53, 71, 49]), .agg [.lit (.int .u8 40), .lit (.bool true), .lit (.bool false)]], .agg [.lit (.string [52, 53, 82, 49]), .agg [.lit (.int .u8 40), .lit (.bool true), .lit (.bool true)]]]

/-- 'twistlocklaw06.BoxLists': WHATEVER THE INPUT: true; the input reads as it did. -/
def boxListsSpec : ChangeSpec := { name := "boxLists", fn := fun _ => fun
  | [d1, d2, d3] => { results := [.lit (.bool true)], args := [d1, d2, d3] }
  | _ => none }
def boxListsRow : OpenClaim := { program := "ytllmpemmknblaaadoor", sum := "b148d2b4bc647ac7f53926b6f1bdc3d028e3f906e62c6bb293db66d3d3eca387", func := "twistlock/twistlocklaw06.BoxLists", spec := "boxLists", unfollowed := true, recurses := true, named := ["twistlock/iso.kinds"], apart := false, laid := [("twistlock/iso.kinds", laid_twistlock_iso_kinds)] }
def BoxListsSaid : Prop := boxListsRow.holds Tryd.pinned (OpenSpec.ofChange boxListsSpec)

/-- ITS FALSE NEIGHBOUR: 'it returns false'. Refute it at one input. -/
def boxListsWrong : ChangeSpec := { name := "boxLists", fn := fun _ => fun
  | [d1, d2, d3] => { results := [.lit (.bool false)], args := [d1, d2, d3] }
  | _ => none }
def BoxListsWrongFalsely : Prop := boxListsRow.holds Tryd.pinned (OpenSpec.ofChange boxListsWrong)

/-- 'twistlocklaw06.BoxSmall': WHATEVER THE INPUT: true; the input reads as it did. -/
def boxSmallSpec : ChangeSpec := { name := "boxSmall", fn := fun _ => fun
  | [] => { results := [.lit (.bool true)], args := [] }
  | _ => none }
def boxSmallRow : OpenClaim := { program := "ytllmpemmknblaaadoor", sum := "b148d2b4bc647ac7f53926b6f1bdc3d028e3f906e62c6bb293db66d3d3eca387", func := "twistlock/twistlocklaw06.BoxSmall", spec := "boxSmall", unfollowed := true, recurses := true, named := ["twistlock/iso.kinds"], apart := false, laid := [("twistlock/iso.kinds", laid_twistlock_iso_kinds)] }
def BoxSmallSaid : Prop := boxSmallRow.holds Tryd.pinned (OpenSpec.ofChange boxSmallSpec)

/-- ITS FALSE NEIGHBOUR: 'it returns false'. Refute it at one input. -/
def boxSmallWrong : ChangeSpec := { name := "boxSmall", fn := fun _ => fun
  | [] => { results := [.lit (.bool false)], args := [] }
  | _ => none }
def BoxSmallWrongFalsely : Prop := boxSmallRow.holds Tryd.pinned (OpenSpec.ofChange boxSmallWrong)

/-- 'twistlocklaw06.BoxKinds': WHATEVER THE INPUT: true; the input reads as it did. -/
def boxKindsSpec : ChangeSpec := { name := "boxKinds", fn := fun _ => fun
  | [d1, d2] => { results := [.lit (.bool true)], args := [d1, d2] }
  | _ => none }
def boxKindsRow : OpenClaim := { program := "ytllmpemmknblaaadoor", sum := "b148d2b4bc647ac7f53926b6f1bdc3d028e3f906e62c6bb293db66d3d3eca387", func := "twistlock/twistlocklaw06.BoxKinds", spec := "boxKinds", unfollowed := true, recurses := true, named := ["twistlock/iso.kinds"], apart := false, laid := [("twistlock/iso.kinds", laid_twistlock_iso_kinds)] }
def BoxKindsSaid : Prop := boxKindsRow.holds Tryd.pinned (OpenSpec.ofChange boxKindsSpec)

/-- ITS FALSE NEIGHBOUR: 'it returns false'. Refute it at one input. -/
def boxKindsWrong : ChangeSpec := { name := "boxKinds", fn := fun _ => fun
  | [d1, d2] => { results := [.lit (.bool false)], args := [d1, d2] }
  | _ => none }
def BoxKindsWrongFalsely : Prop := boxKindsRow.holds Tryd.pinned (OpenSpec.ofChange boxKindsWrong)

/-- 'twistlocklaw06.BoxStays': WHATEVER THE INPUT: true; the input reads as it did. -/
def boxStaysSpec : ChangeSpec := { name := "boxStays", fn := fun _ => fun
  | [d] => { results := [.lit (.bool true)], args := [d] }
  | _ => none }
def boxStaysRow : OpenClaim := { program := "ytllmpemmknblaaadoor", sum := "b148d2b4bc647ac7f53926b6f1bdc3d028e3f906e62c6bb293db66d3d3eca387", func := "twistlock/twistlocklaw06.BoxStays", spec := "boxStays", unfollowed := true, recurses := true, named := ["twistlock/iso.kinds"], apart := false, laid := [("twistlock/iso.kinds", laid_twistlock_iso_kinds)] }
def BoxStaysSaid : Prop := boxStaysRow.holds Tryd.pinned (OpenSpec.ofChange boxStaysSpec)

/-- ITS FALSE NEIGHBOUR: 'it returns false'. Refute it at one input. -/
def boxStaysWrong : ChangeSpec := { name := "boxStays", fn := fun _ => fun
  | [d] => { results := [.lit (.bool false)], args := [d] }
  | _ => none }
def BoxStaysWrongFalsely : Prop := boxStaysRow.holds Tryd.pinned (OpenSpec.ofChange boxStaysWrong)

/-- 'twistlocklaw06.BoxSums': WHATEVER THE INPUT: true; the input reads as it did. -/
def boxSumsSpec : ChangeSpec := { name := "boxSums", fn := fun _ => fun
  | [d1, d2, d3] => { results := [.lit (.bool true)], args := [d1, d2, d3] }
  | _ => none }
def boxSumsRow : OpenClaim := { program := "ytllmpemmknblaaadoor", sum := "b148d2b4bc647ac7f53926b6f1bdc3d028e3f906e62c6bb293db66d3d3eca387", func := "twistlock/twistlocklaw06.BoxSums", spec := "boxSums", unfollowed := true, recurses := true, named := ["twistlock/iso.kinds"], apart := false, laid := [("twistlock/iso.kinds", laid_twistlock_iso_kinds)] }
def BoxSumsSaid : Prop := boxSumsRow.holds Tryd.pinned (OpenSpec.ofChange boxSumsSpec)

/-- ITS FALSE NEIGHBOUR: 'it returns false'. Refute it at one input. -/
def boxSumsWrong : ChangeSpec := { name := "boxSums", fn := fun _ => fun
  | [d1, d2, d3] => { results := [.lit (.bool false)], args := [d1, d2, d3] }
  | _ => none }
def BoxSumsWrongFalsely : Prop := boxSumsRow.holds Tryd.pinned (OpenSpec.ofChange boxSumsWrong)

/-- 'twistlocklaw06.BoxOrder': WHATEVER THE INPUT: true; the input reads as it did. -/
def boxOrderSpec : ChangeSpec := { name := "boxOrder", fn := fun _ => fun
  | [d1, d2] => { results := [.lit (.bool true)], args := [d1, d2] }
  | _ => none }
def boxOrderRow : OpenClaim := { program := "ytllmpemmknblaaadoor", sum := "b148d2b4bc647ac7f53926b6f1bdc3d028e3f906e62c6bb293db66d3d3eca387", func := "twistlock/twistlocklaw06.BoxOrder", spec := "boxOrder", unfollowed := true, recurses := true, named := ["twistlock/iso.kinds"], apart := false, laid := [("twistlock/iso.kinds", laid_twistlock_iso_kinds)] }
def BoxOrderSaid : Prop := boxOrderRow.holds Tryd.pinned (OpenSpec.ofChange boxOrderSpec)

/-- ITS FALSE NEIGHBOUR: 'it returns false'. Refute it at one input. -/
def boxOrderWrong : ChangeSpec := { name := "boxOrder", fn := fun _ => fun
  | [d1, d2] => { results := [.lit (.bool false)], args := [d1, d2] }
  | _ => none }
def BoxOrderWrongFalsely : Prop := boxOrderRow.holds Tryd.pinned (OpenSpec.ofChange boxOrderWrong)

/-- 'twistlocklaw06.BoxFirst': WHATEVER THE INPUT: true; the input reads as it did. -/
def boxFirstSpec : ChangeSpec := { name := "boxFirst", fn := fun _ => fun
  | [d1, d2, d3] => { results := [.lit (.bool true)], args := [d1, d2, d3] }
  | _ => none }
def boxFirstRow : OpenClaim := { program := "ytllmpemmknblaaadoor", sum := "b148d2b4bc647ac7f53926b6f1bdc3d028e3f906e62c6bb293db66d3d3eca387", func := "twistlock/twistlocklaw06.BoxFirst", spec := "boxFirst", unfollowed := true, recurses := true, named := ["twistlock/iso.kinds"], apart := false, laid := [("twistlock/iso.kinds", laid_twistlock_iso_kinds)] }
def BoxFirstSaid : Prop := boxFirstRow.holds Tryd.pinned (OpenSpec.ofChange boxFirstSpec)

/-- ITS FALSE NEIGHBOUR: 'it returns false'. Refute it at one input. -/
def boxFirstWrong : ChangeSpec := { name := "boxFirst", fn := fun _ => fun
  | [d1, d2, d3] => { results := [.lit (.bool false)], args := [d1, d2, d3] }
  | _ => none }
def BoxFirstWrongFalsely : Prop := boxFirstRow.holds Tryd.pinned (OpenSpec.ofChange boxFirstWrong)

/-- 'twistlocklaw06.BoxWrong': WHATEVER THE INPUT: true; the input reads as it did. -/
def boxWrongSpec : ChangeSpec := { name := "boxWrong", fn := fun _ => fun
  | [d1, d2, d3] => { results := [.lit (.bool true)], args := [d1, d2, d3] }
  | _ => none }
def boxWrongRow : OpenClaim := { program := "ytllmpemmknblaaadoor", sum := "b148d2b4bc647ac7f53926b6f1bdc3d028e3f906e62c6bb293db66d3d3eca387", func := "twistlock/twistlocklaw06.BoxWrong", spec := "boxWrong", unfollowed := true, recurses := true, named := ["twistlock/iso.kinds"], apart := false, laid := [("twistlock/iso.kinds", laid_twistlock_iso_kinds)] }
def BoxWrongSaid : Prop := boxWrongRow.holds Tryd.pinned (OpenSpec.ofChange boxWrongSpec)

/-- ITS FALSE NEIGHBOUR: 'it returns false'. Refute it at one input. -/
def boxWrongWrong : ChangeSpec := { name := "boxWrong", fn := fun _ => fun
  | [d1, d2, d3] => { results := [.lit (.bool false)], args := [d1, d2, d3] }
  | _ => none }
def BoxWrongWrongFalsely : Prop := boxWrongRow.holds Tryd.pinned (OpenSpec.ofChange boxWrongWrong)

/- THE SECOND FORM. 'bulk': how many values and letters a reading holds, each counted each time it is reached (what is shared counts as often as it is met; a slice's spare places count too). A statement '..UptoSaid' is the law's where the arguments, and the package variables that the reading takes, are together of bulk at most 1048576: NARROWER than '..Said'. Prove '..Said' where nothing that the law and all that it calls make is longer than what came in: it says more and counts as full. Else prove '..UptoSaid'. A law counts once. -/
mutual
def uptoBulk {H : Type} : DataW H → Nat
  | .lit (.string bytes) => bytes.length + 1
  | .lit _ => 1
  | .nil => 1
  | .ptr d => uptoBulk d + 1
  | .slice elems spare => uptoBulkAll elems + uptoBulkAll spare + 1
  | .agg parts => uptoBulkAll parts + 1
  | .iface _ d => uptoBulk d + 1
  | .map entries => uptoBulkEntries entries + 1
  | .held _ => 1
def uptoBulkAll {H : Type} : List (DataW H) → Nat
  | [] => 0
  | d :: r => uptoBulk d + uptoBulkAll r
def uptoBulkEntries {H : Type} : List (Lit × DataW H) → Nat
  | [] => 0
  | x :: r => uptoBulkEntry x + uptoBulkEntries r
def uptoBulkEntry {H : Type} : Lit × DataW H → Nat
  | (.string bytes, d) => bytes.length + uptoBulk d + 1
  | (_, d) => uptoBulk d + 1
 end
def uptoSmall : (H : Type) → List (DataW H) → Bool := fun _ ds => decide (uptoBulkAll ds ≤ 1048576)
def OpenSpec.upto (s : _root_.Go.ChangeSpec) : _root_.Go.OpenSpec := { _root_.Go.OpenSpec.ofChange s with cond := some uptoSmall }

/-- 'twistlocklaw06.BoxLists', WHERE WHAT IT READS IS OF BULK AT MOST 1048576: true; the input reads as it did. -/
def boxListsUptoRow : OpenClaim := { program := "ytllmpemmknblaaadoor", sum := "b148d2b4bc647ac7f53926b6f1bdc3d028e3f906e62c6bb293db66d3d3eca387", func := "twistlock/twistlocklaw06.BoxLists", spec := "boxLists", unfollowed := true, recurses := true, named := ["twistlock/iso.kinds"], apart := false, laid := [("twistlock/iso.kinds", laid_twistlock_iso_kinds)], narrowed := true }
def BoxListsUptoSaid : Prop := boxListsUptoRow.holds Tryd.pinned (OpenSpec.upto boxListsSpec)

/-- 'twistlocklaw06.BoxSmall', WHERE WHAT IT READS IS OF BULK AT MOST 1048576: true; the input reads as it did. -/
def boxSmallUptoRow : OpenClaim := { program := "ytllmpemmknblaaadoor", sum := "b148d2b4bc647ac7f53926b6f1bdc3d028e3f906e62c6bb293db66d3d3eca387", func := "twistlock/twistlocklaw06.BoxSmall", spec := "boxSmall", unfollowed := true, recurses := true, named := ["twistlock/iso.kinds"], apart := false, laid := [("twistlock/iso.kinds", laid_twistlock_iso_kinds)], narrowed := true }
def BoxSmallUptoSaid : Prop := boxSmallUptoRow.holds Tryd.pinned (OpenSpec.upto boxSmallSpec)

/-- 'twistlocklaw06.BoxKinds', WHERE WHAT IT READS IS OF BULK AT MOST 1048576: true; the input reads as it did. -/
def boxKindsUptoRow : OpenClaim := { program := "ytllmpemmknblaaadoor", sum := "b148d2b4bc647ac7f53926b6f1bdc3d028e3f906e62c6bb293db66d3d3eca387", func := "twistlock/twistlocklaw06.BoxKinds", spec := "boxKinds", unfollowed := true, recurses := true, named := ["twistlock/iso.kinds"], apart := false, laid := [("twistlock/iso.kinds", laid_twistlock_iso_kinds)], narrowed := true }
def BoxKindsUptoSaid : Prop := boxKindsUptoRow.holds Tryd.pinned (OpenSpec.upto boxKindsSpec)

/-- 'twistlocklaw06.BoxStays', WHERE WHAT IT READS IS OF BULK AT MOST 1048576: true; the input reads as it did. -/
def boxStaysUptoRow : OpenClaim := { program := "ytllmpemmknblaaadoor", sum := "b148d2b4bc647ac7f53926b6f1bdc3d028e3f906e62c6bb293db66d3d3eca387", func := "twistlock/twistlocklaw06.BoxStays", spec := "boxStays", unfollowed := true, recurses := true, named := ["twistlock/iso.kinds"], apart := false, laid := [("twistlock/iso.kinds", laid_twistlock_iso_kinds)], narrowed := true }
def BoxStaysUptoSaid : Prop := boxStaysUptoRow.holds Tryd.pinned (OpenSpec.upto boxStaysSpec)

/-- 'twistlocklaw06.BoxSums', WHERE WHAT IT READS IS OF BULK AT MOST 1048576: true; the input reads as it did. -/
def boxSumsUptoRow : OpenClaim := { program := "ytllmpemmknblaaadoor", sum := "b148d2b4bc647ac7f53926b6f1bdc3d028e3f906e62c6bb293db66d3d3eca387", func := "twistlock/twistlocklaw06.BoxSums", spec := "boxSums", unfollowed := true, recurses := true, named := ["twistlock/iso.kinds"], apart := false, laid := [("twistlock/iso.kinds", laid_twistlock_iso_kinds)], narrowed := true }
def BoxSumsUptoSaid : Prop := boxSumsUptoRow.holds Tryd.pinned (OpenSpec.upto boxSumsSpec)

/-- 'twistlocklaw06.BoxOrder', WHERE WHAT IT READS IS OF BULK AT MOST 1048576: true; the input reads as it did. -/
def boxOrderUptoRow : OpenClaim := { program := "ytllmpemmknblaaadoor", sum := "b148d2b4bc647ac7f53926b6f1bdc3d028e3f906e62c6bb293db66d3d3eca387", func := "twistlock/twistlocklaw06.BoxOrder", spec := "boxOrder", unfollowed := true, recurses := true, named := ["twistlock/iso.kinds"], apart := false, laid := [("twistlock/iso.kinds", laid_twistlock_iso_kinds)], narrowed := true }
def BoxOrderUptoSaid : Prop := boxOrderUptoRow.holds Tryd.pinned (OpenSpec.upto boxOrderSpec)

/-- 'twistlocklaw06.BoxFirst', WHERE WHAT IT READS IS OF BULK AT MOST 1048576: true; the input reads as it did. -/
def boxFirstUptoRow : OpenClaim := { program := "ytllmpemmknblaaadoor", sum := "b148d2b4bc647ac7f53926b6f1bdc3d028e3f906e62c6bb293db66d3d3eca387", func := "twistlock/twistlocklaw06.BoxFirst", spec := "boxFirst", unfollowed := true, recurses := true, named := ["twistlock/iso.kinds"], apart := false, laid := [("twistlock/iso.kinds", laid_twistlock_iso_kinds)], narrowed := true }
def BoxFirstUptoSaid : Prop := boxFirstUptoRow.holds Tryd.pinned (OpenSpec.upto boxFirstSpec)

/-- 'twistlocklaw06.BoxWrong', WHERE WHAT IT READS IS OF BULK AT MOST 1048576: true; the input reads as it did. -/
def boxWrongUptoRow : OpenClaim := { program := "ytllmpemmknblaaadoor", sum := "b148d2b4bc647ac7f53926b6f1bdc3d028e3f906e62c6bb293db66d3d3eca387", func := "twistlock/twistlocklaw06.BoxWrong", spec := "boxWrong", unfollowed := true, recurses := true, named := ["twistlock/iso.kinds"], apart := false, laid := [("twistlock/iso.kinds", laid_twistlock_iso_kinds)], narrowed := true }
def BoxWrongUptoSaid : Prop := boxWrongUptoRow.holds Tryd.pinned (OpenSpec.upto boxWrongSpec)

end Rows
end Go.Proofs.YtllmpemmknblaaaDoor
