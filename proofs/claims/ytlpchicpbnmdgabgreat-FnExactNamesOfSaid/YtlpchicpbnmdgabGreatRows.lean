/-
  No cell of these rows narrows 'for every input' (looked for: loops, veiled, ifaces, maps, wideKeys, modest, calm, conditions, laid).
  DERIVED. THE GIVEN ROWS OF THIS SEAT. 7 by the template 'for every input the law returns true; each argument reads behind the call as it read before'; 0 by the template 'total and deterministic' (their statements: YtlpchicpbnmdgabGreatTotals.lean).
  GIVEN WITH THE SEED: the statements are not yours to turn. If you find one false, say at which input.
  Laid BY PROGRAM, IN A SANDBOX (cutbox-rows.mjs): the forced cells as the released guide's own fill.sh prints them over the translation 961f240d0e6a43bb… (all of the seat's roots in one cut). By AI agents, Wed Nov 11 2026. No macro, syntax, notation, axiom, sorry.
-/
import Derived.Test.YtlpchicpbnmdgabGreatChecked
import GoSem.Claim
import GoSem.ClaimJoined
import GoSem.ClaimMapViews
import Derived.JoinedTies
import Derived.KernelRfl
namespace Go.Proofs.YtlpchicpbnmdgabGreat
/- THE CELL 'sum', in the pinned program and in every row, IS THE sha256 OF THE DUMP (.gsa) THAT YtlpchicpbnmdgabGreatProg.lean LOADS. Nothing in Lean hashes anything: it is a label: what it is worth is what the hold of that sum in a sandbox is worth. -/
noncomputable def Tryz.pinned : Pinned := { name := "ytlpchicpbnmdgabgreat", sum := "961f240d0e6a43bbc3fc1fadad0ebf5a0dcbe2145886b8d8048db5e357592822", checked := Tryz.checked }
namespace Rows
def none {H : Type} : Left H := { results := [], args := [] }

/-- 'laws.FnExactNamesOf': WHATEVER THE INPUT: true; the input reads as it did. -/
def fnExactNamesOfSpec : ChangeSpec := { name := "fnExactNamesOf", fn := fun _ => fun
  | [d1, d2] => { results := [.lit (.bool true)], args := [d1, d2] }
  | _ => none }
def fnExactNamesOfRow : OpenClaim := { program := "ytlpchicpbnmdgabgreat", sum := "961f240d0e6a43bbc3fc1fadad0ebf5a0dcbe2145886b8d8048db5e357592822", func := "loop.example/objectmodel/laws.FnExactNamesOf", spec := "fnExactNamesOf", unfollowed := true, recurses := true, apart := false }
def FnExactNamesOfSaid : Prop := fnExactNamesOfRow.holds Tryz.pinned (OpenSpec.ofChange fnExactNamesOfSpec)

/-- ITS FALSE NEIGHBOUR: 'it returns false'. Refute it at one input. -/
def fnExactNamesOfWrong : ChangeSpec := { name := "fnExactNamesOf", fn := fun _ => fun
  | [d1, d2] => { results := [.lit (.bool false)], args := [d1, d2] }
  | _ => none }
def FnExactNamesOfWrongFalsely : Prop := fnExactNamesOfRow.holds Tryz.pinned (OpenSpec.ofChange fnExactNamesOfWrong)

/-- 'laws.FnExactSetAttr': WHATEVER THE INPUT: true; the input reads as it did. -/
def fnExactSetAttrSpec : ChangeSpec := { name := "fnExactSetAttr", fn := fun _ => fun
  | [d1, d2, d3, d4] => { results := [.lit (.bool true)], args := [d1, d2, d3, d4] }
  | _ => none }
def fnExactSetAttrRow : OpenClaim := { program := "ytlpchicpbnmdgabgreat", sum := "961f240d0e6a43bbc3fc1fadad0ebf5a0dcbe2145886b8d8048db5e357592822", func := "loop.example/objectmodel/laws.FnExactSetAttr", spec := "fnExactSetAttr", unfollowed := true, recurses := true, apart := false }
def FnExactSetAttrSaid : Prop := fnExactSetAttrRow.holds Tryz.pinned (OpenSpec.ofChange fnExactSetAttrSpec)

/-- ITS FALSE NEIGHBOUR: 'it returns false'. Refute it at one input. -/
def fnExactSetAttrWrong : ChangeSpec := { name := "fnExactSetAttr", fn := fun _ => fun
  | [d1, d2, d3, d4] => { results := [.lit (.bool false)], args := [d1, d2, d3, d4] }
  | _ => none }
def FnExactSetAttrWrongFalsely : Prop := fnExactSetAttrRow.holds Tryz.pinned (OpenSpec.ofChange fnExactSetAttrWrong)

/-- 'laws.FnExactDelAttr': WHATEVER THE INPUT: true; the input reads as it did. -/
def fnExactDelAttrSpec : ChangeSpec := { name := "fnExactDelAttr", fn := fun _ => fun
  | [d1, d2, d3] => { results := [.lit (.bool true)], args := [d1, d2, d3] }
  | _ => none }
def fnExactDelAttrRow : OpenClaim := { program := "ytlpchicpbnmdgabgreat", sum := "961f240d0e6a43bbc3fc1fadad0ebf5a0dcbe2145886b8d8048db5e357592822", func := "loop.example/objectmodel/laws.FnExactDelAttr", spec := "fnExactDelAttr", recurses := true, apart := false }
def FnExactDelAttrSaid : Prop := fnExactDelAttrRow.holds Tryz.pinned (OpenSpec.ofChange fnExactDelAttrSpec)

/-- ITS FALSE NEIGHBOUR: 'it returns false'. Refute it at one input. -/
def fnExactDelAttrWrong : ChangeSpec := { name := "fnExactDelAttr", fn := fun _ => fun
  | [d1, d2, d3] => { results := [.lit (.bool false)], args := [d1, d2, d3] }
  | _ => none }
def FnExactDelAttrWrongFalsely : Prop := fnExactDelAttrRow.holds Tryz.pinned (OpenSpec.ofChange fnExactDelAttrWrong)

/-- 'laws.FnSetAttr': WHATEVER THE INPUT: true; the input reads as it did. -/
def fnSetAttrSpec : ChangeSpec := { name := "fnSetAttr", fn := fun _ => fun
  | [d] => { results := [.lit (.bool true)], args := [d] }
  | _ => none }
def fnSetAttrRow : OpenClaim := { program := "ytlpchicpbnmdgabgreat", sum := "961f240d0e6a43bbc3fc1fadad0ebf5a0dcbe2145886b8d8048db5e357592822", func := "loop.example/objectmodel/laws.FnSetAttr", spec := "fnSetAttr", unfollowed := true, recurses := true, apart := false }
def FnSetAttrSaid : Prop := fnSetAttrRow.holds Tryz.pinned (OpenSpec.ofChange fnSetAttrSpec)

/-- ITS FALSE NEIGHBOUR: 'it returns false'. Refute it at one input. -/
def fnSetAttrWrong : ChangeSpec := { name := "fnSetAttr", fn := fun _ => fun
  | [d] => { results := [.lit (.bool false)], args := [d] }
  | _ => none }
def FnSetAttrWrongFalsely : Prop := fnSetAttrRow.holds Tryz.pinned (OpenSpec.ofChange fnSetAttrWrong)

/-- 'laws.FnSetAttrTwice': WHATEVER THE INPUT: true; the input reads as it did. -/
def fnSetAttrTwiceSpec : ChangeSpec := { name := "fnSetAttrTwice", fn := fun _ => fun
  | [d] => { results := [.lit (.bool true)], args := [d] }
  | _ => none }
def fnSetAttrTwiceRow : OpenClaim := { program := "ytlpchicpbnmdgabgreat", sum := "961f240d0e6a43bbc3fc1fadad0ebf5a0dcbe2145886b8d8048db5e357592822", func := "loop.example/objectmodel/laws.FnSetAttrTwice", spec := "fnSetAttrTwice", unfollowed := true, recurses := true, apart := false }
def FnSetAttrTwiceSaid : Prop := fnSetAttrTwiceRow.holds Tryz.pinned (OpenSpec.ofChange fnSetAttrTwiceSpec)

/-- ITS FALSE NEIGHBOUR: 'it returns false'. Refute it at one input. -/
def fnSetAttrTwiceWrong : ChangeSpec := { name := "fnSetAttrTwice", fn := fun _ => fun
  | [d] => { results := [.lit (.bool false)], args := [d] }
  | _ => none }
def FnSetAttrTwiceWrongFalsely : Prop := fnSetAttrTwiceRow.holds Tryz.pinned (OpenSpec.ofChange fnSetAttrTwiceWrong)

/-- 'laws.FnDelAttr': WHATEVER THE INPUT: true; the input reads as it did. -/
def fnDelAttrSpec : ChangeSpec := { name := "fnDelAttr", fn := fun _ => fun
  | [d] => { results := [.lit (.bool true)], args := [d] }
  | _ => none }
def fnDelAttrRow : OpenClaim := { program := "ytlpchicpbnmdgabgreat", sum := "961f240d0e6a43bbc3fc1fadad0ebf5a0dcbe2145886b8d8048db5e357592822", func := "loop.example/objectmodel/laws.FnDelAttr", spec := "fnDelAttr", unfollowed := true, recurses := true, apart := false }
def FnDelAttrSaid : Prop := fnDelAttrRow.holds Tryz.pinned (OpenSpec.ofChange fnDelAttrSpec)

/-- ITS FALSE NEIGHBOUR: 'it returns false'. Refute it at one input. -/
def fnDelAttrWrong : ChangeSpec := { name := "fnDelAttr", fn := fun _ => fun
  | [d] => { results := [.lit (.bool false)], args := [d] }
  | _ => none }
def FnDelAttrWrongFalsely : Prop := fnDelAttrRow.holds Tryz.pinned (OpenSpec.ofChange fnDelAttrWrong)

/-- 'laws.FnSetClassAttrData': WHATEVER THE INPUT: true; the input reads as it did. -/
def fnSetClassAttrDataSpec : ChangeSpec := { name := "fnSetClassAttrData", fn := fun _ => fun
  | [d] => { results := [.lit (.bool true)], args := [d] }
  | _ => none }
def fnSetClassAttrDataRow : OpenClaim := { program := "ytlpchicpbnmdgabgreat", sum := "961f240d0e6a43bbc3fc1fadad0ebf5a0dcbe2145886b8d8048db5e357592822", func := "loop.example/objectmodel/laws.FnSetClassAttrData", spec := "fnSetClassAttrData", unfollowed := true, recurses := true, apart := false }
def FnSetClassAttrDataSaid : Prop := fnSetClassAttrDataRow.holds Tryz.pinned (OpenSpec.ofChange fnSetClassAttrDataSpec)

/-- ITS FALSE NEIGHBOUR: 'it returns false'. Refute it at one input. -/
def fnSetClassAttrDataWrong : ChangeSpec := { name := "fnSetClassAttrData", fn := fun _ => fun
  | [d] => { results := [.lit (.bool false)], args := [d] }
  | _ => none }
def FnSetClassAttrDataWrongFalsely : Prop := fnSetClassAttrDataRow.holds Tryz.pinned (OpenSpec.ofChange fnSetClassAttrDataWrong)

/- THE SECOND FORM. 'bulk': how many values and letters a reading holds, each counted each time it is reached (what is shared counts as often as it is met; a slice's spare places count too). A statement '..UptoSaid' is the law's where the arguments, and the package variables that the reading takes, are together of bulk at most 1048576: NARROWER than '..Said'. Prove '..Said' where nothing that the law and all that it calls make is longer than what came in: it says more and counts as full. Else prove '..UptoSaid'. A law counts once. -/
mutual
def uptoBulk {H : Type} : DataW H → Nat
  | .lit (.string bytes) => bytes.length + 1
  | .lit _ => 1
  | .nil => 1
  | .ptr d => uptoBulk d + 1
  | .slice elems spare => uptoBulkAll elems + uptoBulkAll spare + 1
  | .agg parts => uptoBulkAll parts + 1
  | .iface _ d => uptoBulk d + 1
  | .map entries => uptoBulkEntries entries + 1
  | .held _ => 1
def uptoBulkAll {H : Type} : List (DataW H) → Nat
  | [] => 0
  | d :: r => uptoBulk d + uptoBulkAll r
def uptoBulkEntries {H : Type} : List (Lit × DataW H) → Nat
  | [] => 0
  | x :: r => uptoBulkEntry x + uptoBulkEntries r
def uptoBulkEntry {H : Type} : Lit × DataW H → Nat
  | (.string bytes, d) => bytes.length + uptoBulk d + 1
  | (_, d) => uptoBulk d + 1
 end
def uptoSmall : (H : Type) → List (DataW H) → Bool := fun _ ds => decide (uptoBulkAll ds ≤ 1048576)
def OpenSpec.upto (s : _root_.Go.ChangeSpec) : _root_.Go.OpenSpec := { _root_.Go.OpenSpec.ofChange s with cond := some uptoSmall }

/-- 'laws.FnExactNamesOf', WHERE WHAT IT READS IS OF BULK AT MOST 1048576: true; the input reads as it did. -/
def fnExactNamesOfUptoRow : OpenClaim := { program := "ytlpchicpbnmdgabgreat", sum := "961f240d0e6a43bbc3fc1fadad0ebf5a0dcbe2145886b8d8048db5e357592822", func := "loop.example/objectmodel/laws.FnExactNamesOf", spec := "fnExactNamesOf", unfollowed := true, recurses := true, apart := false, narrowed := true }
def FnExactNamesOfUptoSaid : Prop := fnExactNamesOfUptoRow.holds Tryz.pinned (OpenSpec.upto fnExactNamesOfSpec)

/-- 'laws.FnExactSetAttr', WHERE WHAT IT READS IS OF BULK AT MOST 1048576: true; the input reads as it did. -/
def fnExactSetAttrUptoRow : OpenClaim := { program := "ytlpchicpbnmdgabgreat", sum := "961f240d0e6a43bbc3fc1fadad0ebf5a0dcbe2145886b8d8048db5e357592822", func := "loop.example/objectmodel/laws.FnExactSetAttr", spec := "fnExactSetAttr", unfollowed := true, recurses := true, apart := false, narrowed := true }
def FnExactSetAttrUptoSaid : Prop := fnExactSetAttrUptoRow.holds Tryz.pinned (OpenSpec.upto fnExactSetAttrSpec)

/-- 'laws.FnExactDelAttr', WHERE WHAT IT READS IS OF BULK AT MOST 1048576: true; the input reads as it did. -/
def fnExactDelAttrUptoRow : OpenClaim := { program := "ytlpchicpbnmdgabgreat", sum := "961f240d0e6a43bbc3fc1fadad0ebf5a0dcbe2145886b8d8048db5e357592822", func := "loop.example/objectmodel/laws.FnExactDelAttr", spec := "fnExactDelAttr", recurses := true, apart := false, narrowed := true }
def FnExactDelAttrUptoSaid : Prop := fnExactDelAttrUptoRow.holds Tryz.pinned (OpenSpec.upto fnExactDelAttrSpec)

/-- 'laws.FnSetAttr', WHERE WHAT IT READS IS OF BULK AT MOST 1048576: true; the input reads as it did. -/
def fnSetAttrUptoRow : OpenClaim := { program := "ytlpchicpbnmdgabgreat", sum := "961f240d0e6a43bbc3fc1fadad0ebf5a0dcbe2145886b8d8048db5e357592822", func := "loop.example/objectmodel/laws.FnSetAttr", spec := "fnSetAttr", unfollowed := true, recurses := true, apart := false, narrowed := true }
def FnSetAttrUptoSaid : Prop := fnSetAttrUptoRow.holds Tryz.pinned (OpenSpec.upto fnSetAttrSpec)

/-- 'laws.FnSetAttrTwice', WHERE WHAT IT READS IS OF BULK AT MOST 1048576: true; the input reads as it did. -/
def fnSetAttrTwiceUptoRow : OpenClaim := { program := "ytlpchicpbnmdgabgreat", sum := "961f240d0e6a43bbc3fc1fadad0ebf5a0dcbe2145886b8d8048db5e357592822", func := "loop.example/objectmodel/laws.FnSetAttrTwice", spec := "fnSetAttrTwice", unfollowed := true, recurses := true, apart := false, narrowed := true }
def FnSetAttrTwiceUptoSaid : Prop := fnSetAttrTwiceUptoRow.holds Tryz.pinned (OpenSpec.upto fnSetAttrTwiceSpec)

/-- 'laws.FnDelAttr', WHERE WHAT IT READS IS OF BULK AT MOST 1048576: true; the input reads as it did. -/
def fnDelAttrUptoRow : OpenClaim := { program := "ytlpchicpbnmdgabgreat", sum := "961f240d0e6a43bbc3fc1fadad0ebf5a0dcbe2145886b8d8048db5e357592822", func := "loop.example/objectmodel/laws.FnDelAttr", spec := "fnDelAttr", unfollowed := true, recurses := true, apart := false, narrowed := true }
def FnDelAttrUptoSaid : Prop := fnDelAttrUptoRow.holds Tryz.pinned (OpenSpec.upto fnDelAttrSpec)

/-- 'laws.FnSetClassAttrData', WHERE WHAT IT READS IS OF BULK AT MOST 1048576: true; the input reads as it did. -/
def fnSetClassAttrDataUptoRow : OpenClaim := { program := "ytlpchicpbnmdgabgreat", sum := "961f240d0e6a43bbc3fc1fadad0ebf5a0dcbe2145886b8d8048db5e357592822", func := "loop.example/objectmodel/laws.FnSetClassAttrData", spec := "fnSetClassAttrData", unfollowed := true, recurses := true, apart := false, narrowed := true }
def FnSetClassAttrDataUptoSaid : Prop := fnSetClassAttrDataUptoRow.holds Tryz.pinned (OpenSpec.upto fnSetClassAttrDataSpec)

end Rows
end Go.Proofs.YtlpchicpbnmdgabGreat
