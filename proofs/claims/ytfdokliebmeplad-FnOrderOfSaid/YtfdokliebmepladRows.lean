/-
  No cell of these rows narrows 'for every input' (looked for: loops, veiled, ifaces, maps, wideKeys, modest, calm, conditions, laid).
  DERIVED. THE GIVEN ROWS OF THIS SEAT. 12 by the template 'for every input the law returns true; each argument reads behind the call as it read before'; 0 by the template 'total and deterministic' (their statements: YtfdokliebmepladTotals.lean).
  GIVEN WITH THE SEED: the statements are not yours to turn. If you find one false, say at which input.
  Laid BY PROGRAM, IN A SANDBOX (cutbox-rows.mjs): the forced cells as the released guide's own fill.sh prints them over the translation 62676b6ba9a04379… (all of the seat's roots in one cut). By AI agents, Wed Nov 11 2026. No macro, syntax, notation, axiom, sorry.
-/
import Derived.Test.YtfdokliebmepladChecked
import GoSem.Claim
import GoSem.ClaimJoined
import GoSem.ClaimMapViews
import Derived.JoinedTies
import Derived.KernelRfl
namespace Go.Proofs.Ytfdokliebmeplad
/- THE CELL 'sum', in the pinned program and in every row, IS THE sha256 OF THE DUMP (.gsa) THAT YtfdokliebmepladProg.lean LOADS. Nothing in Lean hashes anything: it is a label: what it is worth is what the hold of that sum in a sandbox is worth. -/
noncomputable def Try.pinned : Pinned := { name := "ytfdokliebmeplad", sum := "62676b6ba9a04379b7a2b78e3fc1c594da02c91c49a1c35b27bcb6df988738f4", checked := Try.checked }
namespace Rows
def none {H : Type} : Left H := { results := [], args := [] }

/-- 'laws.FnMergeLists': WHATEVER THE INPUT: true; the input reads as it did. -/
def fnMergeListsSpec : ChangeSpec := { name := "fnMergeLists", fn := fun _ => fun
  | [d] => { results := [.lit (.bool true)], args := [d] }
  | _ => none }
def fnMergeListsRow : OpenClaim := { program := "ytfdokliebmeplad", sum := "62676b6ba9a04379b7a2b78e3fc1c594da02c91c49a1c35b27bcb6df988738f4", func := "loop.example/objectmodel/laws.FnMergeLists", spec := "fnMergeLists", recurses := true, apart := false }
def FnMergeListsSaid : Prop := fnMergeListsRow.holds Try.pinned (OpenSpec.ofChange fnMergeListsSpec)

/-- ITS FALSE NEIGHBOUR: 'it returns false'. Refute it at one input. -/
def fnMergeListsWrong : ChangeSpec := { name := "fnMergeLists", fn := fun _ => fun
  | [d] => { results := [.lit (.bool false)], args := [d] }
  | _ => none }
def FnMergeListsWrongFalsely : Prop := fnMergeListsRow.holds Try.pinned (OpenSpec.ofChange fnMergeListsWrong)

/-- 'laws.FnExactMergeLists': WHATEVER THE INPUT: true; the input reads as it did. -/
def fnExactMergeListsSpec : ChangeSpec := { name := "fnExactMergeLists", fn := fun _ => fun
  | [d] => { results := [.lit (.bool true)], args := [d] }
  | _ => none }
def fnExactMergeListsRow : OpenClaim := { program := "ytfdokliebmeplad", sum := "62676b6ba9a04379b7a2b78e3fc1c594da02c91c49a1c35b27bcb6df988738f4", func := "loop.example/objectmodel/laws.FnExactMergeLists", spec := "fnExactMergeLists", apart := false }
def FnExactMergeListsSaid : Prop := fnExactMergeListsRow.holds Try.pinned (OpenSpec.ofChange fnExactMergeListsSpec)

/-- ITS FALSE NEIGHBOUR: 'it returns false'. Refute it at one input. -/
def fnExactMergeListsWrong : ChangeSpec := { name := "fnExactMergeLists", fn := fun _ => fun
  | [d] => { results := [.lit (.bool false)], args := [d] }
  | _ => none }
def FnExactMergeListsWrongFalsely : Prop := fnExactMergeListsRow.holds Try.pinned (OpenSpec.ofChange fnExactMergeListsWrong)

/-- 'laws.FnMergeListsAgain': WHATEVER THE INPUT: true; the input reads as it did. -/
def fnMergeListsAgainSpec : ChangeSpec := { name := "fnMergeListsAgain", fn := fun _ => fun
  | [d] => { results := [.lit (.bool true)], args := [d] }
  | _ => none }
def fnMergeListsAgainRow : OpenClaim := { program := "ytfdokliebmeplad", sum := "62676b6ba9a04379b7a2b78e3fc1c594da02c91c49a1c35b27bcb6df988738f4", func := "loop.example/objectmodel/laws.FnMergeListsAgain", spec := "fnMergeListsAgain", recurses := true, apart := false }
def FnMergeListsAgainSaid : Prop := fnMergeListsAgainRow.holds Try.pinned (OpenSpec.ofChange fnMergeListsAgainSpec)

/-- ITS FALSE NEIGHBOUR: 'it returns false'. Refute it at one input. -/
def fnMergeListsAgainWrong : ChangeSpec := { name := "fnMergeListsAgain", fn := fun _ => fun
  | [d] => { results := [.lit (.bool false)], args := [d] }
  | _ => none }
def FnMergeListsAgainWrongFalsely : Prop := fnMergeListsAgainRow.holds Try.pinned (OpenSpec.ofChange fnMergeListsAgainWrong)

/-- 'laws.FnStuckHeads': WHATEVER THE INPUT: true; the input reads as it did. -/
def fnStuckHeadsSpec : ChangeSpec := { name := "fnStuckHeads", fn := fun _ => fun
  | [d] => { results := [.lit (.bool true)], args := [d] }
  | _ => none }
def fnStuckHeadsRow : OpenClaim := { program := "ytfdokliebmeplad", sum := "62676b6ba9a04379b7a2b78e3fc1c594da02c91c49a1c35b27bcb6df988738f4", func := "loop.example/objectmodel/laws.FnStuckHeads", spec := "fnStuckHeads", recurses := true, apart := false }
def FnStuckHeadsSaid : Prop := fnStuckHeadsRow.holds Try.pinned (OpenSpec.ofChange fnStuckHeadsSpec)

/-- ITS FALSE NEIGHBOUR: 'it returns false'. Refute it at one input. -/
def fnStuckHeadsWrong : ChangeSpec := { name := "fnStuckHeads", fn := fun _ => fun
  | [d] => { results := [.lit (.bool false)], args := [d] }
  | _ => none }
def FnStuckHeadsWrongFalsely : Prop := fnStuckHeadsRow.holds Try.pinned (OpenSpec.ofChange fnStuckHeadsWrong)

/-- 'laws.FnExactStuckHeads': WHATEVER THE INPUT: true; the input reads as it did. -/
def fnExactStuckHeadsSpec : ChangeSpec := { name := "fnExactStuckHeads", fn := fun _ => fun
  | [d] => { results := [.lit (.bool true)], args := [d] }
  | _ => none }
def fnExactStuckHeadsRow : OpenClaim := { program := "ytfdokliebmeplad", sum := "62676b6ba9a04379b7a2b78e3fc1c594da02c91c49a1c35b27bcb6df988738f4", func := "loop.example/objectmodel/laws.FnExactStuckHeads", spec := "fnExactStuckHeads", apart := false }
def FnExactStuckHeadsSaid : Prop := fnExactStuckHeadsRow.holds Try.pinned (OpenSpec.ofChange fnExactStuckHeadsSpec)

/-- ITS FALSE NEIGHBOUR: 'it returns false'. Refute it at one input. -/
def fnExactStuckHeadsWrong : ChangeSpec := { name := "fnExactStuckHeads", fn := fun _ => fun
  | [d] => { results := [.lit (.bool false)], args := [d] }
  | _ => none }
def FnExactStuckHeadsWrongFalsely : Prop := fnExactStuckHeadsRow.holds Try.pinned (OpenSpec.ofChange fnExactStuckHeadsWrong)

/-- 'laws.FnOrderOf': WHATEVER THE INPUT: true; the input reads as it did. -/
def fnOrderOfSpec : ChangeSpec := { name := "fnOrderOf", fn := fun _ => fun
  | [d] => { results := [.lit (.bool true)], args := [d] }
  | _ => none }
def fnOrderOfRow : OpenClaim := { program := "ytfdokliebmeplad", sum := "62676b6ba9a04379b7a2b78e3fc1c594da02c91c49a1c35b27bcb6df988738f4", func := "loop.example/objectmodel/laws.FnOrderOf", spec := "fnOrderOf", recurses := true, apart := false }
def FnOrderOfSaid : Prop := fnOrderOfRow.holds Try.pinned (OpenSpec.ofChange fnOrderOfSpec)

/-- ITS FALSE NEIGHBOUR: 'it returns false'. Refute it at one input. -/
def fnOrderOfWrong : ChangeSpec := { name := "fnOrderOf", fn := fun _ => fun
  | [d] => { results := [.lit (.bool false)], args := [d] }
  | _ => none }
def FnOrderOfWrongFalsely : Prop := fnOrderOfRow.holds Try.pinned (OpenSpec.ofChange fnOrderOfWrong)

/-- 'laws.FnExactOrderOf': WHATEVER THE INPUT: true; the input reads as it did. -/
def fnExactOrderOfSpec : ChangeSpec := { name := "fnExactOrderOf", fn := fun _ => fun
  | [d1, d2] => { results := [.lit (.bool true)], args := [d1, d2] }
  | _ => none }
def fnExactOrderOfRow : OpenClaim := { program := "ytfdokliebmeplad", sum := "62676b6ba9a04379b7a2b78e3fc1c594da02c91c49a1c35b27bcb6df988738f4", func := "loop.example/objectmodel/laws.FnExactOrderOf", spec := "fnExactOrderOf", recurses := true, apart := false }
def FnExactOrderOfSaid : Prop := fnExactOrderOfRow.holds Try.pinned (OpenSpec.ofChange fnExactOrderOfSpec)

/-- ITS FALSE NEIGHBOUR: 'it returns false'. Refute it at one input. -/
def fnExactOrderOfWrong : ChangeSpec := { name := "fnExactOrderOf", fn := fun _ => fun
  | [d1, d2] => { results := [.lit (.bool false)], args := [d1, d2] }
  | _ => none }
def FnExactOrderOfWrongFalsely : Prop := fnExactOrderOfRow.holds Try.pinned (OpenSpec.ofChange fnExactOrderOfWrong)

/-- 'laws.FnOrderOfMonotone': WHATEVER THE INPUT: true; the input reads as it did. -/
def fnOrderOfMonotoneSpec : ChangeSpec := { name := "fnOrderOfMonotone", fn := fun _ => fun
  | [d] => { results := [.lit (.bool true)], args := [d] }
  | _ => none }
def fnOrderOfMonotoneRow : OpenClaim := { program := "ytfdokliebmeplad", sum := "62676b6ba9a04379b7a2b78e3fc1c594da02c91c49a1c35b27bcb6df988738f4", func := "loop.example/objectmodel/laws.FnOrderOfMonotone", spec := "fnOrderOfMonotone", recurses := true, apart := false }
def FnOrderOfMonotoneSaid : Prop := fnOrderOfMonotoneRow.holds Try.pinned (OpenSpec.ofChange fnOrderOfMonotoneSpec)

/-- ITS FALSE NEIGHBOUR: 'it returns false'. Refute it at one input. -/
def fnOrderOfMonotoneWrong : ChangeSpec := { name := "fnOrderOfMonotone", fn := fun _ => fun
  | [d] => { results := [.lit (.bool false)], args := [d] }
  | _ => none }
def FnOrderOfMonotoneWrongFalsely : Prop := fnOrderOfMonotoneRow.holds Try.pinned (OpenSpec.ofChange fnOrderOfMonotoneWrong)

/-- 'laws.FnOrderOfSame': WHATEVER THE INPUT: true; the input reads as it did. -/
def fnOrderOfSameSpec : ChangeSpec := { name := "fnOrderOfSame", fn := fun _ => fun
  | [d] => { results := [.lit (.bool true)], args := [d] }
  | _ => none }
def fnOrderOfSameRow : OpenClaim := { program := "ytfdokliebmeplad", sum := "62676b6ba9a04379b7a2b78e3fc1c594da02c91c49a1c35b27bcb6df988738f4", func := "loop.example/objectmodel/laws.FnOrderOfSame", spec := "fnOrderOfSame", recurses := true, apart := false }
def FnOrderOfSameSaid : Prop := fnOrderOfSameRow.holds Try.pinned (OpenSpec.ofChange fnOrderOfSameSpec)

/-- ITS FALSE NEIGHBOUR: 'it returns false'. Refute it at one input. -/
def fnOrderOfSameWrong : ChangeSpec := { name := "fnOrderOfSame", fn := fun _ => fun
  | [d] => { results := [.lit (.bool false)], args := [d] }
  | _ => none }
def FnOrderOfSameWrongFalsely : Prop := fnOrderOfSameRow.holds Try.pinned (OpenSpec.ofChange fnOrderOfSameWrong)

/-- 'laws.FnAddClass': WHATEVER THE INPUT: true; the input reads as it did. -/
def fnAddClassSpec : ChangeSpec := { name := "fnAddClass", fn := fun _ => fun
  | [d] => { results := [.lit (.bool true)], args := [d] }
  | _ => none }
def fnAddClassRow : OpenClaim := { program := "ytfdokliebmeplad", sum := "62676b6ba9a04379b7a2b78e3fc1c594da02c91c49a1c35b27bcb6df988738f4", func := "loop.example/objectmodel/laws.FnAddClass", spec := "fnAddClass", recurses := true, apart := false }
def FnAddClassSaid : Prop := fnAddClassRow.holds Try.pinned (OpenSpec.ofChange fnAddClassSpec)

/-- ITS FALSE NEIGHBOUR: 'it returns false'. Refute it at one input. -/
def fnAddClassWrong : ChangeSpec := { name := "fnAddClass", fn := fun _ => fun
  | [d] => { results := [.lit (.bool false)], args := [d] }
  | _ => none }
def FnAddClassWrongFalsely : Prop := fnAddClassRow.holds Try.pinned (OpenSpec.ofChange fnAddClassWrong)

/-- 'laws.FnExactAddClass': WHATEVER THE INPUT: true; the input reads as it did. -/
def fnExactAddClassSpec : ChangeSpec := { name := "fnExactAddClass", fn := fun _ => fun
  | [d1, d2] => { results := [.lit (.bool true)], args := [d1, d2] }
  | _ => none }
def fnExactAddClassRow : OpenClaim := { program := "ytfdokliebmeplad", sum := "62676b6ba9a04379b7a2b78e3fc1c594da02c91c49a1c35b27bcb6df988738f4", func := "loop.example/objectmodel/laws.FnExactAddClass", spec := "fnExactAddClass", recurses := true, apart := false }
def FnExactAddClassSaid : Prop := fnExactAddClassRow.holds Try.pinned (OpenSpec.ofChange fnExactAddClassSpec)

/-- ITS FALSE NEIGHBOUR: 'it returns false'. Refute it at one input. -/
def fnExactAddClassWrong : ChangeSpec := { name := "fnExactAddClass", fn := fun _ => fun
  | [d1, d2] => { results := [.lit (.bool false)], args := [d1, d2] }
  | _ => none }
def FnExactAddClassWrongFalsely : Prop := fnExactAddClassRow.holds Try.pinned (OpenSpec.ofChange fnExactAddClassWrong)

/-- 'laws.FnMergeListsCount': WHATEVER THE INPUT: true; the input reads as it did. -/
def fnMergeListsCountSpec : ChangeSpec := { name := "fnMergeListsCount", fn := fun _ => fun
  | [d] => { results := [.lit (.bool true)], args := [d] }
  | _ => none }
def fnMergeListsCountRow : OpenClaim := { program := "ytfdokliebmeplad", sum := "62676b6ba9a04379b7a2b78e3fc1c594da02c91c49a1c35b27bcb6df988738f4", func := "loop.example/objectmodel/laws.FnMergeListsCount", spec := "fnMergeListsCount", recurses := true, apart := false }
def FnMergeListsCountSaid : Prop := fnMergeListsCountRow.holds Try.pinned (OpenSpec.ofChange fnMergeListsCountSpec)

/-- ITS FALSE NEIGHBOUR: 'it returns false'. Refute it at one input. -/
def fnMergeListsCountWrong : ChangeSpec := { name := "fnMergeListsCount", fn := fun _ => fun
  | [d] => { results := [.lit (.bool false)], args := [d] }
  | _ => none }
def FnMergeListsCountWrongFalsely : Prop := fnMergeListsCountRow.holds Try.pinned (OpenSpec.ofChange fnMergeListsCountWrong)

/- THE SECOND FORM. 'bulk': how many values and letters a reading holds, each counted each time it is reached (what is shared counts as often as it is met; a slice's spare places count too). A statement '..UptoSaid' is the law's where the arguments, and the package variables that the reading takes, are together of bulk at most 1048576: NARROWER than '..Said'. Prove '..Said' where nothing that the law and all that it calls make is longer than what came in: it says more and counts as full. Else prove '..UptoSaid'. A law counts once. -/
mutual
def uptoBulk {H : Type} : DataW H → Nat
  | .lit (.string bytes) => bytes.length + 1
  | .lit _ => 1
  | .nil => 1
  | .ptr d => uptoBulk d + 1
  | .slice elems spare => uptoBulkAll elems + uptoBulkAll spare + 1
  | .agg parts => uptoBulkAll parts + 1
  | .iface _ d => uptoBulk d + 1
  | .map entries => uptoBulkEntries entries + 1
  | .held _ => 1
def uptoBulkAll {H : Type} : List (DataW H) → Nat
  | [] => 0
  | d :: r => uptoBulk d + uptoBulkAll r
def uptoBulkEntries {H : Type} : List (Lit × DataW H) → Nat
  | [] => 0
  | x :: r => uptoBulkEntry x + uptoBulkEntries r
def uptoBulkEntry {H : Type} : Lit × DataW H → Nat
  | (.string bytes, d) => bytes.length + uptoBulk d + 1
  | (_, d) => uptoBulk d + 1
 end
def uptoSmall : (H : Type) → List (DataW H) → Bool := fun _ ds => decide (uptoBulkAll ds ≤ 1048576)
def OpenSpec.upto (s : _root_.Go.ChangeSpec) : _root_.Go.OpenSpec := { _root_.Go.OpenSpec.ofChange s with cond := some uptoSmall }

/-- 'laws.FnMergeLists', WHERE WHAT IT READS IS OF BULK AT MOST 1048576: true; the input reads as it did. -/
def fnMergeListsUptoRow : OpenClaim := { program := "ytfdokliebmeplad", sum := "62676b6ba9a04379b7a2b78e3fc1c594da02c91c49a1c35b27bcb6df988738f4", func := "loop.example/objectmodel/laws.FnMergeLists", spec := "fnMergeLists", recurses := true, apart := false, narrowed := true }
def FnMergeListsUptoSaid : Prop := fnMergeListsUptoRow.holds Try.pinned (OpenSpec.upto fnMergeListsSpec)

/-- 'laws.FnExactMergeLists', WHERE WHAT IT READS IS OF BULK AT MOST 1048576: true; the input reads as it did. -/
def fnExactMergeListsUptoRow : OpenClaim := { program := "ytfdokliebmeplad", sum := "62676b6ba9a04379b7a2b78e3fc1c594da02c91c49a1c35b27bcb6df988738f4", func := "loop.example/objectmodel/laws.FnExactMergeLists", spec := "fnExactMergeLists", apart := false, narrowed := true }
def FnExactMergeListsUptoSaid : Prop := fnExactMergeListsUptoRow.holds Try.pinned (OpenSpec.upto fnExactMergeListsSpec)

/-- 'laws.FnMergeListsAgain', WHERE WHAT IT READS IS OF BULK AT MOST 1048576: true; the input reads as it did. -/
def fnMergeListsAgainUptoRow : OpenClaim := { program := "ytfdokliebmeplad", sum := "62676b6ba9a04379b7a2b78e3fc1c594da02c91c49a1c35b27bcb6df988738f4", func := "loop.example/objectmodel/laws.FnMergeListsAgain", spec := "fnMergeListsAgain", recurses := true, apart := false, narrowed := true }
def FnMergeListsAgainUptoSaid : Prop := fnMergeListsAgainUptoRow.holds Try.pinned (OpenSpec.upto fnMergeListsAgainSpec)

/-- 'laws.FnStuckHeads', WHERE WHAT IT READS IS OF BULK AT MOST 1048576: true; the input reads as it did. -/
def fnStuckHeadsUptoRow : OpenClaim := { program := "ytfdokliebmeplad", sum := "62676b6ba9a04379b7a2b78e3fc1c594da02c91c49a1c35b27bcb6df988738f4", func := "loop.example/objectmodel/laws.FnStuckHeads", spec := "fnStuckHeads", recurses := true, apart := false, narrowed := true }
def FnStuckHeadsUptoSaid : Prop := fnStuckHeadsUptoRow.holds Try.pinned (OpenSpec.upto fnStuckHeadsSpec)

/-- 'laws.FnExactStuckHeads', WHERE WHAT IT READS IS OF BULK AT MOST 1048576: true; the input reads as it did. -/
def fnExactStuckHeadsUptoRow : OpenClaim := { program := "ytfdokliebmeplad", sum := "62676b6ba9a04379b7a2b78e3fc1c594da02c91c49a1c35b27bcb6df988738f4", func := "loop.example/objectmodel/laws.FnExactStuckHeads", spec := "fnExactStuckHeads", apart := false, narrowed := true }
def FnExactStuckHeadsUptoSaid : Prop := fnExactStuckHeadsUptoRow.holds Try.pinned (OpenSpec.upto fnExactStuckHeadsSpec)

/-- 'laws.FnOrderOf', WHERE WHAT IT READS IS OF BULK AT MOST 1048576: true; the input reads as it did. -/
def fnOrderOfUptoRow : OpenClaim := { program := "ytfdokliebmeplad", sum := "62676b6ba9a04379b7a2b78e3fc1c594da02c91c49a1c35b27bcb6df988738f4", func := "loop.example/objectmodel/laws.FnOrderOf", spec := "fnOrderOf", recurses := true, apart := false, narrowed := true }
def FnOrderOfUptoSaid : Prop := fnOrderOfUptoRow.holds Try.pinned (OpenSpec.upto fnOrderOfSpec)

/-- 'laws.FnExactOrderOf', WHERE WHAT IT READS IS OF BULK AT MOST 1048576: true; the input reads as it did. -/
def fnExactOrderOfUptoRow : OpenClaim := { program := "ytfdokliebmeplad", sum := "62676b6ba9a04379b7a2b78e3fc1c594da02c91c49a1c35b27bcb6df988738f4", func := "loop.example/objectmodel/laws.FnExactOrderOf", spec := "fnExactOrderOf", recurses := true, apart := false, narrowed := true }
def FnExactOrderOfUptoSaid : Prop := fnExactOrderOfUptoRow.holds Try.pinned (OpenSpec.upto fnExactOrderOfSpec)

/-- 'laws.FnOrderOfMonotone', WHERE WHAT IT READS IS OF BULK AT MOST 1048576: true; the input reads as it did. -/
def fnOrderOfMonotoneUptoRow : OpenClaim := { program := "ytfdokliebmeplad", sum := "62676b6ba9a04379b7a2b78e3fc1c594da02c91c49a1c35b27bcb6df988738f4", func := "loop.example/objectmodel/laws.FnOrderOfMonotone", spec := "fnOrderOfMonotone", recurses := true, apart := false, narrowed := true }
def FnOrderOfMonotoneUptoSaid : Prop := fnOrderOfMonotoneUptoRow.holds Try.pinned (OpenSpec.upto fnOrderOfMonotoneSpec)

/-- 'laws.FnOrderOfSame', WHERE WHAT IT READS IS OF BULK AT MOST 1048576: true; the input reads as it did. -/
def fnOrderOfSameUptoRow : OpenClaim := { program := "ytfdokliebmeplad", sum := "62676b6ba9a04379b7a2b78e3fc1c594da02c91c49a1c35b27bcb6df988738f4", func := "loop.example/objectmodel/laws.FnOrderOfSame", spec := "fnOrderOfSame", recurses := true, apart := false, narrowed := true }
def FnOrderOfSameUptoSaid : Prop := fnOrderOfSameUptoRow.holds Try.pinned (OpenSpec.upto fnOrderOfSameSpec)

/-- 'laws.FnAddClass', WHERE WHAT IT READS IS OF BULK AT MOST 1048576: true; the input reads as it did. -/
def fnAddClassUptoRow : OpenClaim := { program := "ytfdokliebmeplad", sum := "62676b6ba9a04379b7a2b78e3fc1c594da02c91c49a1c35b27bcb6df988738f4", func := "loop.example/objectmodel/laws.FnAddClass", spec := "fnAddClass", recurses := true, apart := false, narrowed := true }
def FnAddClassUptoSaid : Prop := fnAddClassUptoRow.holds Try.pinned (OpenSpec.upto fnAddClassSpec)

/-- 'laws.FnExactAddClass', WHERE WHAT IT READS IS OF BULK AT MOST 1048576: true; the input reads as it did. -/
def fnExactAddClassUptoRow : OpenClaim := { program := "ytfdokliebmeplad", sum := "62676b6ba9a04379b7a2b78e3fc1c594da02c91c49a1c35b27bcb6df988738f4", func := "loop.example/objectmodel/laws.FnExactAddClass", spec := "fnExactAddClass", recurses := true, apart := false, narrowed := true }
def FnExactAddClassUptoSaid : Prop := fnExactAddClassUptoRow.holds Try.pinned (OpenSpec.upto fnExactAddClassSpec)

/-- 'laws.FnMergeListsCount', WHERE WHAT IT READS IS OF BULK AT MOST 1048576: true; the input reads as it did. -/
def fnMergeListsCountUptoRow : OpenClaim := { program := "ytfdokliebmeplad", sum := "62676b6ba9a04379b7a2b78e3fc1c594da02c91c49a1c35b27bcb6df988738f4", func := "loop.example/objectmodel/laws.FnMergeListsCount", spec := "fnMergeListsCount", recurses := true, apart := false, narrowed := true }
def FnMergeListsCountUptoSaid : Prop := fnMergeListsCountUptoRow.holds Try.pinned (OpenSpec.upto fnMergeListsCountSpec)

end Rows
end Go.Proofs.Ytfdokliebmeplad
