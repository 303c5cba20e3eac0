/-
  No cell of these rows narrows 'for every input' (looked for: loops, veiled, ifaces, maps, wideKeys, modest, calm, conditions, laid).
  DERIVED. THE GIVEN ROWS OF THIS SEAT. 12 by the template 'for every input the law returns true; each argument reads behind the call as it read before'; 0 by the template 'total and deterministic' (their statements: YtnmgjhlmmhoffaaTotals.lean).
  GIVEN WITH THE SEED: the statements are not yours to turn. If you find one false, say at which input.
  Laid BY PROGRAM, IN A SANDBOX (cutbox-rows.mjs): the forced cells as the released guide's own fill.sh prints them over the translation 7e0fd24bb6a5e7ae… (all of the seat's roots in one cut). By AI agents, Wed Nov 11 2026. No macro, syntax, notation, axiom, sorry.
-/
import Derived.Test.YtnmgjhlmmhoffaaChecked
import GoSem.Claim
import GoSem.ClaimJoined
import GoSem.ClaimMapViews
import Derived.JoinedTies
import Derived.KernelRfl
namespace Go.Proofs.Ytnmgjhlmmhoffaa
/- THE CELL 'sum', in the pinned program and in every row, IS THE sha256 OF THE DUMP (.gsa) THAT YtnmgjhlmmhoffaaProg.lean LOADS. Nothing in Lean hashes anything: it is a label: what it is worth is what the hold of that sum in a sandbox is worth. -/
noncomputable def Try.pinned : Pinned := { name := "ytnmgjhlmmhoffaa", sum := "7e0fd24bb6a5e7ae00ea15cec9e9eb0f7cca66bd28e0fcaf6be36aa27808f6c0", checked := Try.checked }
namespace Rows
def none {H : Type} : Left H := { results := [], args := [] }

/-- 'laws.FnValidBases': WHATEVER THE INPUT: true; the input reads as it did. -/
def fnValidBasesSpec : ChangeSpec := { name := "fnValidBases", fn := fun _ => fun
  | [d] => { results := [.lit (.bool true)], args := [d] }
  | _ => none }
def fnValidBasesRow : OpenClaim := { program := "ytnmgjhlmmhoffaa", sum := "7e0fd24bb6a5e7ae00ea15cec9e9eb0f7cca66bd28e0fcaf6be36aa27808f6c0", func := "loop.example/objectmodel/laws.FnValidBases", spec := "fnValidBases", apart := false }
def FnValidBasesSaid : Prop := fnValidBasesRow.holds Try.pinned (OpenSpec.ofChange fnValidBasesSpec)

/-- ITS FALSE NEIGHBOUR: 'it returns false'. Refute it at one input. -/
def fnValidBasesWrong : ChangeSpec := { name := "fnValidBases", fn := fun _ => fun
  | [d] => { results := [.lit (.bool false)], args := [d] }
  | _ => none }
def FnValidBasesWrongFalsely : Prop := fnValidBasesRow.holds Try.pinned (OpenSpec.ofChange fnValidBasesWrong)

/-- 'laws.FnMergeLists': WHATEVER THE INPUT: true; the input reads as it did. -/
def fnMergeListsSpec : ChangeSpec := { name := "fnMergeLists", fn := fun _ => fun
  | [d] => { results := [.lit (.bool true)], args := [d] }
  | _ => none }
def fnMergeListsRow : OpenClaim := { program := "ytnmgjhlmmhoffaa", sum := "7e0fd24bb6a5e7ae00ea15cec9e9eb0f7cca66bd28e0fcaf6be36aa27808f6c0", func := "loop.example/objectmodel/laws.FnMergeLists", spec := "fnMergeLists", recurses := true, apart := false }
def FnMergeListsSaid : Prop := fnMergeListsRow.holds Try.pinned (OpenSpec.ofChange fnMergeListsSpec)

/-- ITS FALSE NEIGHBOUR: 'it returns false'. Refute it at one input. -/
def fnMergeListsWrong : ChangeSpec := { name := "fnMergeLists", fn := fun _ => fun
  | [d] => { results := [.lit (.bool false)], args := [d] }
  | _ => none }
def FnMergeListsWrongFalsely : Prop := fnMergeListsRow.holds Try.pinned (OpenSpec.ofChange fnMergeListsWrong)

/-- 'laws.FnMergeListsCount': WHATEVER THE INPUT: true; the input reads as it did. -/
def fnMergeListsCountSpec : ChangeSpec := { name := "fnMergeListsCount", fn := fun _ => fun
  | [d] => { results := [.lit (.bool true)], args := [d] }
  | _ => none }
def fnMergeListsCountRow : OpenClaim := { program := "ytnmgjhlmmhoffaa", sum := "7e0fd24bb6a5e7ae00ea15cec9e9eb0f7cca66bd28e0fcaf6be36aa27808f6c0", func := "loop.example/objectmodel/laws.FnMergeListsCount", spec := "fnMergeListsCount", recurses := true, apart := false }
def FnMergeListsCountSaid : Prop := fnMergeListsCountRow.holds Try.pinned (OpenSpec.ofChange fnMergeListsCountSpec)

/-- ITS FALSE NEIGHBOUR: 'it returns false'. Refute it at one input. -/
def fnMergeListsCountWrong : ChangeSpec := { name := "fnMergeListsCount", fn := fun _ => fun
  | [d] => { results := [.lit (.bool false)], args := [d] }
  | _ => none }
def FnMergeListsCountWrongFalsely : Prop := fnMergeListsCountRow.holds Try.pinned (OpenSpec.ofChange fnMergeListsCountWrong)

/-- 'laws.FnMergeListsAgain': WHATEVER THE INPUT: true; the input reads as it did. -/
def fnMergeListsAgainSpec : ChangeSpec := { name := "fnMergeListsAgain", fn := fun _ => fun
  | [d] => { results := [.lit (.bool true)], args := [d] }
  | _ => none }
def fnMergeListsAgainRow : OpenClaim := { program := "ytnmgjhlmmhoffaa", sum := "7e0fd24bb6a5e7ae00ea15cec9e9eb0f7cca66bd28e0fcaf6be36aa27808f6c0", func := "loop.example/objectmodel/laws.FnMergeListsAgain", spec := "fnMergeListsAgain", recurses := true, apart := false }
def FnMergeListsAgainSaid : Prop := fnMergeListsAgainRow.holds Try.pinned (OpenSpec.ofChange fnMergeListsAgainSpec)

/-- ITS FALSE NEIGHBOUR: 'it returns false'. Refute it at one input. -/
def fnMergeListsAgainWrong : ChangeSpec := { name := "fnMergeListsAgain", fn := fun _ => fun
  | [d] => { results := [.lit (.bool false)], args := [d] }
  | _ => none }
def FnMergeListsAgainWrongFalsely : Prop := fnMergeListsAgainRow.holds Try.pinned (OpenSpec.ofChange fnMergeListsAgainWrong)

/-- 'laws.FnStuckHeads': WHATEVER THE INPUT: true; the input reads as it did. -/
def fnStuckHeadsSpec : ChangeSpec := { name := "fnStuckHeads", fn := fun _ => fun
  | [d] => { results := [.lit (.bool true)], args := [d] }
  | _ => none }
def fnStuckHeadsRow : OpenClaim := { program := "ytnmgjhlmmhoffaa", sum := "7e0fd24bb6a5e7ae00ea15cec9e9eb0f7cca66bd28e0fcaf6be36aa27808f6c0", func := "loop.example/objectmodel/laws.FnStuckHeads", spec := "fnStuckHeads", recurses := true, apart := false }
def FnStuckHeadsSaid : Prop := fnStuckHeadsRow.holds Try.pinned (OpenSpec.ofChange fnStuckHeadsSpec)

/-- ITS FALSE NEIGHBOUR: 'it returns false'. Refute it at one input. -/
def fnStuckHeadsWrong : ChangeSpec := { name := "fnStuckHeads", fn := fun _ => fun
  | [d] => { results := [.lit (.bool false)], args := [d] }
  | _ => none }
def FnStuckHeadsWrongFalsely : Prop := fnStuckHeadsRow.holds Try.pinned (OpenSpec.ofChange fnStuckHeadsWrong)

/-- 'laws.FnOrderOf': WHATEVER THE INPUT: true; the input reads as it did. -/
def fnOrderOfSpec : ChangeSpec := { name := "fnOrderOf", fn := fun _ => fun
  | [d] => { results := [.lit (.bool true)], args := [d] }
  | _ => none }
def fnOrderOfRow : OpenClaim := { program := "ytnmgjhlmmhoffaa", sum := "7e0fd24bb6a5e7ae00ea15cec9e9eb0f7cca66bd28e0fcaf6be36aa27808f6c0", func := "loop.example/objectmodel/laws.FnOrderOf", spec := "fnOrderOf", recurses := true, apart := false }
def FnOrderOfSaid : Prop := fnOrderOfRow.holds Try.pinned (OpenSpec.ofChange fnOrderOfSpec)

/-- ITS FALSE NEIGHBOUR: 'it returns false'. Refute it at one input. -/
def fnOrderOfWrong : ChangeSpec := { name := "fnOrderOf", fn := fun _ => fun
  | [d] => { results := [.lit (.bool false)], args := [d] }
  | _ => none }
def FnOrderOfWrongFalsely : Prop := fnOrderOfRow.holds Try.pinned (OpenSpec.ofChange fnOrderOfWrong)

/-- 'laws.FnOrderOfMonotone': WHATEVER THE INPUT: true; the input reads as it did. -/
def fnOrderOfMonotoneSpec : ChangeSpec := { name := "fnOrderOfMonotone", fn := fun _ => fun
  | [d] => { results := [.lit (.bool true)], args := [d] }
  | _ => none }
def fnOrderOfMonotoneRow : OpenClaim := { program := "ytnmgjhlmmhoffaa", sum := "7e0fd24bb6a5e7ae00ea15cec9e9eb0f7cca66bd28e0fcaf6be36aa27808f6c0", func := "loop.example/objectmodel/laws.FnOrderOfMonotone", spec := "fnOrderOfMonotone", recurses := true, apart := false }
def FnOrderOfMonotoneSaid : Prop := fnOrderOfMonotoneRow.holds Try.pinned (OpenSpec.ofChange fnOrderOfMonotoneSpec)

/-- ITS FALSE NEIGHBOUR: 'it returns false'. Refute it at one input. -/
def fnOrderOfMonotoneWrong : ChangeSpec := { name := "fnOrderOfMonotone", fn := fun _ => fun
  | [d] => { results := [.lit (.bool false)], args := [d] }
  | _ => none }
def FnOrderOfMonotoneWrongFalsely : Prop := fnOrderOfMonotoneRow.holds Try.pinned (OpenSpec.ofChange fnOrderOfMonotoneWrong)

/-- 'laws.FnOrderOfMerge': WHATEVER THE INPUT: true; the input reads as it did. -/
def fnOrderOfMergeSpec : ChangeSpec := { name := "fnOrderOfMerge", fn := fun _ => fun
  | [d] => { results := [.lit (.bool true)], args := [d] }
  | _ => none }
def fnOrderOfMergeRow : OpenClaim := { program := "ytnmgjhlmmhoffaa", sum := "7e0fd24bb6a5e7ae00ea15cec9e9eb0f7cca66bd28e0fcaf6be36aa27808f6c0", func := "loop.example/objectmodel/laws.FnOrderOfMerge", spec := "fnOrderOfMerge", recurses := true, apart := false }
def FnOrderOfMergeSaid : Prop := fnOrderOfMergeRow.holds Try.pinned (OpenSpec.ofChange fnOrderOfMergeSpec)

/-- ITS FALSE NEIGHBOUR: 'it returns false'. Refute it at one input. -/
def fnOrderOfMergeWrong : ChangeSpec := { name := "fnOrderOfMerge", fn := fun _ => fun
  | [d] => { results := [.lit (.bool false)], args := [d] }
  | _ => none }
def FnOrderOfMergeWrongFalsely : Prop := fnOrderOfMergeRow.holds Try.pinned (OpenSpec.ofChange fnOrderOfMergeWrong)

/-- 'laws.FnOrderOfSame': WHATEVER THE INPUT: true; the input reads as it did. -/
def fnOrderOfSameSpec : ChangeSpec := { name := "fnOrderOfSame", fn := fun _ => fun
  | [d] => { results := [.lit (.bool true)], args := [d] }
  | _ => none }
def fnOrderOfSameRow : OpenClaim := { program := "ytnmgjhlmmhoffaa", sum := "7e0fd24bb6a5e7ae00ea15cec9e9eb0f7cca66bd28e0fcaf6be36aa27808f6c0", func := "loop.example/objectmodel/laws.FnOrderOfSame", spec := "fnOrderOfSame", recurses := true, apart := false }
def FnOrderOfSameSaid : Prop := fnOrderOfSameRow.holds Try.pinned (OpenSpec.ofChange fnOrderOfSameSpec)

/-- ITS FALSE NEIGHBOUR: 'it returns false'. Refute it at one input. -/
def fnOrderOfSameWrong : ChangeSpec := { name := "fnOrderOfSame", fn := fun _ => fun
  | [d] => { results := [.lit (.bool false)], args := [d] }
  | _ => none }
def FnOrderOfSameWrongFalsely : Prop := fnOrderOfSameRow.holds Try.pinned (OpenSpec.ofChange fnOrderOfSameWrong)

/-- 'laws.FnAboveOf': WHATEVER THE INPUT: true; the input reads as it did. -/
def fnAboveOfSpec : ChangeSpec := { name := "fnAboveOf", fn := fun _ => fun
  | [d] => { results := [.lit (.bool true)], args := [d] }
  | _ => none }
def fnAboveOfRow : OpenClaim := { program := "ytnmgjhlmmhoffaa", sum := "7e0fd24bb6a5e7ae00ea15cec9e9eb0f7cca66bd28e0fcaf6be36aa27808f6c0", func := "loop.example/objectmodel/laws.FnAboveOf", spec := "fnAboveOf", apart := false }
def FnAboveOfSaid : Prop := fnAboveOfRow.holds Try.pinned (OpenSpec.ofChange fnAboveOfSpec)

/-- ITS FALSE NEIGHBOUR: 'it returns false'. Refute it at one input. -/
def fnAboveOfWrong : ChangeSpec := { name := "fnAboveOf", fn := fun _ => fun
  | [d] => { results := [.lit (.bool false)], args := [d] }
  | _ => none }
def FnAboveOfWrongFalsely : Prop := fnAboveOfRow.holds Try.pinned (OpenSpec.ofChange fnAboveOfWrong)

/-- 'laws.FnBelowOf': WHATEVER THE INPUT: true; the input reads as it did. -/
def fnBelowOfSpec : ChangeSpec := { name := "fnBelowOf", fn := fun _ => fun
  | [d] => { results := [.lit (.bool true)], args := [d] }
  | _ => none }
def fnBelowOfRow : OpenClaim := { program := "ytnmgjhlmmhoffaa", sum := "7e0fd24bb6a5e7ae00ea15cec9e9eb0f7cca66bd28e0fcaf6be36aa27808f6c0", func := "loop.example/objectmodel/laws.FnBelowOf", spec := "fnBelowOf", apart := false }
def FnBelowOfSaid : Prop := fnBelowOfRow.holds Try.pinned (OpenSpec.ofChange fnBelowOfSpec)

/-- ITS FALSE NEIGHBOUR: 'it returns false'. Refute it at one input. -/
def fnBelowOfWrong : ChangeSpec := { name := "fnBelowOf", fn := fun _ => fun
  | [d] => { results := [.lit (.bool false)], args := [d] }
  | _ => none }
def FnBelowOfWrongFalsely : Prop := fnBelowOfRow.holds Try.pinned (OpenSpec.ofChange fnBelowOfWrong)

/-- 'laws.FnDepthFirst': WHATEVER THE INPUT: true; the input reads as it did. -/
def fnDepthFirstSpec : ChangeSpec := { name := "fnDepthFirst", fn := fun _ => fun
  | [d] => { results := [.lit (.bool true)], args := [d] }
  | _ => none }
def fnDepthFirstRow : OpenClaim := { program := "ytnmgjhlmmhoffaa", sum := "7e0fd24bb6a5e7ae00ea15cec9e9eb0f7cca66bd28e0fcaf6be36aa27808f6c0", func := "loop.example/objectmodel/laws.FnDepthFirst", spec := "fnDepthFirst", recurses := true, apart := false }
def FnDepthFirstSaid : Prop := fnDepthFirstRow.holds Try.pinned (OpenSpec.ofChange fnDepthFirstSpec)

/-- ITS FALSE NEIGHBOUR: 'it returns false'. Refute it at one input. -/
def fnDepthFirstWrong : ChangeSpec := { name := "fnDepthFirst", fn := fun _ => fun
  | [d] => { results := [.lit (.bool false)], args := [d] }
  | _ => none }
def FnDepthFirstWrongFalsely : Prop := fnDepthFirstRow.holds Try.pinned (OpenSpec.ofChange fnDepthFirstWrong)

/- THE SECOND FORM. 'bulk': how many values and letters a reading holds, each counted each time it is reached (what is shared counts as often as it is met; a slice's spare places count too). A statement '..UptoSaid' is the law's where the arguments, and the package variables that the reading takes, are together of bulk at most 1048576: NARROWER than '..Said'. Prove '..Said' where nothing that the law and all that it calls make is longer than what came in: it says more and counts as full. Else prove '..UptoSaid'. A law counts once. -/
mutual
def uptoBulk {H : Type} : DataW H → Nat
  | .lit (.string bytes) => bytes.length + 1
  | .lit _ => 1
  | .nil => 1
  | .ptr d => uptoBulk d + 1
  | .slice elems spare => uptoBulkAll elems + uptoBulkAll spare + 1
  | .agg parts => uptoBulkAll parts + 1
  | .iface _ d => uptoBulk d + 1
  | .map entries => uptoBulkEntries entries + 1
  | .held _ => 1
def uptoBulkAll {H : Type} : List (DataW H) → Nat
  | [] => 0
  | d :: r => uptoBulk d + uptoBulkAll r
def uptoBulkEntries {H : Type} : List (Lit × DataW H) → Nat
  | [] => 0
  | x :: r => uptoBulkEntry x + uptoBulkEntries r
def uptoBulkEntry {H : Type} : Lit × DataW H → Nat
  | (.string bytes, d) => bytes.length + uptoBulk d + 1
  | (_, d) => uptoBulk d + 1
 end
def uptoSmall : (H : Type) → List (DataW H) → Bool := fun _ ds => decide (uptoBulkAll ds ≤ 1048576)
def OpenSpec.upto (s : _root_.Go.ChangeSpec) : _root_.Go.OpenSpec := { _root_.Go.OpenSpec.ofChange s with cond := some uptoSmall }

/-- 'laws.FnValidBases', WHERE WHAT IT READS IS OF BULK AT MOST 1048576: true; the input reads as it did. -/
def fnValidBasesUptoRow : OpenClaim := { program := "ytnmgjhlmmhoffaa", sum := "7e0fd24bb6a5e7ae00ea15cec9e9eb0f7cca66bd28e0fcaf6be36aa27808f6c0", func := "loop.example/objectmodel/laws.FnValidBases", spec := "fnValidBases", apart := false, narrowed := true }
def FnValidBasesUptoSaid : Prop := fnValidBasesUptoRow.holds Try.pinned (OpenSpec.upto fnValidBasesSpec)

/-- 'laws.FnMergeLists', WHERE WHAT IT READS IS OF BULK AT MOST 1048576: true; the input reads as it did. -/
def fnMergeListsUptoRow : OpenClaim := { program := "ytnmgjhlmmhoffaa", sum := "7e0fd24bb6a5e7ae00ea15cec9e9eb0f7cca66bd28e0fcaf6be36aa27808f6c0", func := "loop.example/objectmodel/laws.FnMergeLists", spec := "fnMergeLists", recurses := true, apart := false, narrowed := true }
def FnMergeListsUptoSaid : Prop := fnMergeListsUptoRow.holds Try.pinned (OpenSpec.upto fnMergeListsSpec)

/-- 'laws.FnMergeListsCount', WHERE WHAT IT READS IS OF BULK AT MOST 1048576: true; the input reads as it did. -/
def fnMergeListsCountUptoRow : OpenClaim := { program := "ytnmgjhlmmhoffaa", sum := "7e0fd24bb6a5e7ae00ea15cec9e9eb0f7cca66bd28e0fcaf6be36aa27808f6c0", func := "loop.example/objectmodel/laws.FnMergeListsCount", spec := "fnMergeListsCount", recurses := true, apart := false, narrowed := true }
def FnMergeListsCountUptoSaid : Prop := fnMergeListsCountUptoRow.holds Try.pinned (OpenSpec.upto fnMergeListsCountSpec)

/-- 'laws.FnMergeListsAgain', WHERE WHAT IT READS IS OF BULK AT MOST 1048576: true; the input reads as it did. -/
def fnMergeListsAgainUptoRow : OpenClaim := { program := "ytnmgjhlmmhoffaa", sum := "7e0fd24bb6a5e7ae00ea15cec9e9eb0f7cca66bd28e0fcaf6be36aa27808f6c0", func := "loop.example/objectmodel/laws.FnMergeListsAgain", spec := "fnMergeListsAgain", recurses := true, apart := false, narrowed := true }
def FnMergeListsAgainUptoSaid : Prop := fnMergeListsAgainUptoRow.holds Try.pinned (OpenSpec.upto fnMergeListsAgainSpec)

/-- 'laws.FnStuckHeads', WHERE WHAT IT READS IS OF BULK AT MOST 1048576: true; the input reads as it did. -/
def fnStuckHeadsUptoRow : OpenClaim := { program := "ytnmgjhlmmhoffaa", sum := "7e0fd24bb6a5e7ae00ea15cec9e9eb0f7cca66bd28e0fcaf6be36aa27808f6c0", func := "loop.example/objectmodel/laws.FnStuckHeads", spec := "fnStuckHeads", recurses := true, apart := false, narrowed := true }
def FnStuckHeadsUptoSaid : Prop := fnStuckHeadsUptoRow.holds Try.pinned (OpenSpec.upto fnStuckHeadsSpec)

/-- 'laws.FnOrderOf', WHERE WHAT IT READS IS OF BULK AT MOST 1048576: true; the input reads as it did. -/
def fnOrderOfUptoRow : OpenClaim := { program := "ytnmgjhlmmhoffaa", sum := "7e0fd24bb6a5e7ae00ea15cec9e9eb0f7cca66bd28e0fcaf6be36aa27808f6c0", func := "loop.example/objectmodel/laws.FnOrderOf", spec := "fnOrderOf", recurses := true, apart := false, narrowed := true }
def FnOrderOfUptoSaid : Prop := fnOrderOfUptoRow.holds Try.pinned (OpenSpec.upto fnOrderOfSpec)

/-- 'laws.FnOrderOfMonotone', WHERE WHAT IT READS IS OF BULK AT MOST 1048576: true; the input reads as it did. -/
def fnOrderOfMonotoneUptoRow : OpenClaim := { program := "ytnmgjhlmmhoffaa", sum := "7e0fd24bb6a5e7ae00ea15cec9e9eb0f7cca66bd28e0fcaf6be36aa27808f6c0", func := "loop.example/objectmodel/laws.FnOrderOfMonotone", spec := "fnOrderOfMonotone", recurses := true, apart := false, narrowed := true }
def FnOrderOfMonotoneUptoSaid : Prop := fnOrderOfMonotoneUptoRow.holds Try.pinned (OpenSpec.upto fnOrderOfMonotoneSpec)

/-- 'laws.FnOrderOfMerge', WHERE WHAT IT READS IS OF BULK AT MOST 1048576: true; the input reads as it did. -/
def fnOrderOfMergeUptoRow : OpenClaim := { program := "ytnmgjhlmmhoffaa", sum := "7e0fd24bb6a5e7ae00ea15cec9e9eb0f7cca66bd28e0fcaf6be36aa27808f6c0", func := "loop.example/objectmodel/laws.FnOrderOfMerge", spec := "fnOrderOfMerge", recurses := true, apart := false, narrowed := true }
def FnOrderOfMergeUptoSaid : Prop := fnOrderOfMergeUptoRow.holds Try.pinned (OpenSpec.upto fnOrderOfMergeSpec)

/-- 'laws.FnOrderOfSame', WHERE WHAT IT READS IS OF BULK AT MOST 1048576: true; the input reads as it did. -/
def fnOrderOfSameUptoRow : OpenClaim := { program := "ytnmgjhlmmhoffaa", sum := "7e0fd24bb6a5e7ae00ea15cec9e9eb0f7cca66bd28e0fcaf6be36aa27808f6c0", func := "loop.example/objectmodel/laws.FnOrderOfSame", spec := "fnOrderOfSame", recurses := true, apart := false, narrowed := true }
def FnOrderOfSameUptoSaid : Prop := fnOrderOfSameUptoRow.holds Try.pinned (OpenSpec.upto fnOrderOfSameSpec)

/-- 'laws.FnAboveOf', WHERE WHAT IT READS IS OF BULK AT MOST 1048576: true; the input reads as it did. -/
def fnAboveOfUptoRow : OpenClaim := { program := "ytnmgjhlmmhoffaa", sum := "7e0fd24bb6a5e7ae00ea15cec9e9eb0f7cca66bd28e0fcaf6be36aa27808f6c0", func := "loop.example/objectmodel/laws.FnAboveOf", spec := "fnAboveOf", apart := false, narrowed := true }
def FnAboveOfUptoSaid : Prop := fnAboveOfUptoRow.holds Try.pinned (OpenSpec.upto fnAboveOfSpec)

/-- 'laws.FnBelowOf', WHERE WHAT IT READS IS OF BULK AT MOST 1048576: true; the input reads as it did. -/
def fnBelowOfUptoRow : OpenClaim := { program := "ytnmgjhlmmhoffaa", sum := "7e0fd24bb6a5e7ae00ea15cec9e9eb0f7cca66bd28e0fcaf6be36aa27808f6c0", func := "loop.example/objectmodel/laws.FnBelowOf", spec := "fnBelowOf", apart := false, narrowed := true }
def FnBelowOfUptoSaid : Prop := fnBelowOfUptoRow.holds Try.pinned (OpenSpec.upto fnBelowOfSpec)

/-- 'laws.FnDepthFirst', WHERE WHAT IT READS IS OF BULK AT MOST 1048576: true; the input reads as it did. -/
def fnDepthFirstUptoRow : OpenClaim := { program := "ytnmgjhlmmhoffaa", sum := "7e0fd24bb6a5e7ae00ea15cec9e9eb0f7cca66bd28e0fcaf6be36aa27808f6c0", func := "loop.example/objectmodel/laws.FnDepthFirst", spec := "fnDepthFirst", recurses := true, apart := false, narrowed := true }
def FnDepthFirstUptoSaid : Prop := fnDepthFirstUptoRow.holds Try.pinned (OpenSpec.upto fnDepthFirstSpec)

end Rows
end Go.Proofs.Ytnmgjhlmmhoffaa
