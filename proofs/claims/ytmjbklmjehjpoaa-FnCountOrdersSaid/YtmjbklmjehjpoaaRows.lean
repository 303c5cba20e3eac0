/-
  No cell of these rows narrows 'for every input' (looked for: loops, veiled, ifaces, maps, wideKeys, modest, calm, conditions, laid).
  DERIVED. THE GIVEN ROWS OF THIS SEAT. 12 by the template 'for every input the law returns true; each argument reads behind the call as it read before'; 0 by the template 'total and deterministic' (their statements: YtmjbklmjehjpoaaTotals.lean).
  GIVEN WITH THE SEED: the statements are not yours to turn. If you find one false, say at which input.
  Laid BY PROGRAM, IN A SANDBOX (cutbox-rows.mjs): the forced cells as the released guide's own fill.sh prints them over the translation e24fa24551da73d2… (all of the seat's roots in one cut). By AI agents, Wed Nov 11 2026. No macro, syntax, notation, axiom, sorry.
-/
import Derived.Test.YtmjbklmjehjpoaaChecked
import GoSem.Claim
import GoSem.ClaimJoined
import GoSem.ClaimMapViews
import Derived.JoinedTies
import Derived.KernelRfl
namespace Go.Proofs.Ytmjbklmjehjpoaa
/- THE CELL 'sum', in the pinned program and in every row, IS THE sha256 OF THE DUMP (.gsa) THAT YtmjbklmjehjpoaaProg.lean LOADS. Nothing in Lean hashes anything: it is a label: what it is worth is what the hold of that sum in a sandbox is worth. -/
noncomputable def Try.pinned : Pinned := { name := "ytmjbklmjehjpoaa", sum := "e24fa24551da73d25f8cd9001168f39a591d0cf93925bf43e253efa976084ec4", checked := Try.checked }
namespace Rows
def none {H : Type} : Left H := { results := [], args := [] }

/-- 'laws.FnMergeLists': WHATEVER THE INPUT: true; the input reads as it did. -/
def fnMergeListsSpec : ChangeSpec := { name := "fnMergeLists", fn := fun _ => fun
  | [d] => { results := [.lit (.bool true)], args := [d] }
  | _ => none }
def fnMergeListsRow : OpenClaim := { program := "ytmjbklmjehjpoaa", sum := "e24fa24551da73d25f8cd9001168f39a591d0cf93925bf43e253efa976084ec4", func := "loop.example/objectmodel/laws.FnMergeLists", spec := "fnMergeLists", recurses := true, apart := false }
def FnMergeListsSaid : Prop := fnMergeListsRow.holds Try.pinned (OpenSpec.ofChange fnMergeListsSpec)

/-- ITS FALSE NEIGHBOUR: 'it returns false'. Refute it at one input. -/
def fnMergeListsWrong : ChangeSpec := { name := "fnMergeLists", fn := fun _ => fun
  | [d] => { results := [.lit (.bool false)], args := [d] }
  | _ => none }
def FnMergeListsWrongFalsely : Prop := fnMergeListsRow.holds Try.pinned (OpenSpec.ofChange fnMergeListsWrong)

/-- 'laws.FnMergeListsAgain': WHATEVER THE INPUT: true; the input reads as it did. -/
def fnMergeListsAgainSpec : ChangeSpec := { name := "fnMergeListsAgain", fn := fun _ => fun
  | [d] => { results := [.lit (.bool true)], args := [d] }
  | _ => none }
def fnMergeListsAgainRow : OpenClaim := { program := "ytmjbklmjehjpoaa", sum := "e24fa24551da73d25f8cd9001168f39a591d0cf93925bf43e253efa976084ec4", func := "loop.example/objectmodel/laws.FnMergeListsAgain", spec := "fnMergeListsAgain", recurses := true, apart := false }
def FnMergeListsAgainSaid : Prop := fnMergeListsAgainRow.holds Try.pinned (OpenSpec.ofChange fnMergeListsAgainSpec)

/-- ITS FALSE NEIGHBOUR: 'it returns false'. Refute it at one input. -/
def fnMergeListsAgainWrong : ChangeSpec := { name := "fnMergeListsAgain", fn := fun _ => fun
  | [d] => { results := [.lit (.bool false)], args := [d] }
  | _ => none }
def FnMergeListsAgainWrongFalsely : Prop := fnMergeListsAgainRow.holds Try.pinned (OpenSpec.ofChange fnMergeListsAgainWrong)

/-- 'laws.FnStuckHeads': WHATEVER THE INPUT: true; the input reads as it did. -/
def fnStuckHeadsSpec : ChangeSpec := { name := "fnStuckHeads", fn := fun _ => fun
  | [d] => { results := [.lit (.bool true)], args := [d] }
  | _ => none }
def fnStuckHeadsRow : OpenClaim := { program := "ytmjbklmjehjpoaa", sum := "e24fa24551da73d25f8cd9001168f39a591d0cf93925bf43e253efa976084ec4", func := "loop.example/objectmodel/laws.FnStuckHeads", spec := "fnStuckHeads", recurses := true, apart := false }
def FnStuckHeadsSaid : Prop := fnStuckHeadsRow.holds Try.pinned (OpenSpec.ofChange fnStuckHeadsSpec)

/-- ITS FALSE NEIGHBOUR: 'it returns false'. Refute it at one input. -/
def fnStuckHeadsWrong : ChangeSpec := { name := "fnStuckHeads", fn := fun _ => fun
  | [d] => { results := [.lit (.bool false)], args := [d] }
  | _ => none }
def FnStuckHeadsWrongFalsely : Prop := fnStuckHeadsRow.holds Try.pinned (OpenSpec.ofChange fnStuckHeadsWrong)

/-- 'laws.FnKeepsOrder': WHATEVER THE INPUT: true; the input reads as it did. -/
def fnKeepsOrderSpec : ChangeSpec := { name := "fnKeepsOrder", fn := fun _ => fun
  | [d] => { results := [.lit (.bool true)], args := [d] }
  | _ => none }
def fnKeepsOrderRow : OpenClaim := { program := "ytmjbklmjehjpoaa", sum := "e24fa24551da73d25f8cd9001168f39a591d0cf93925bf43e253efa976084ec4", func := "loop.example/objectmodel/laws.FnKeepsOrder", spec := "fnKeepsOrder", apart := false }
def FnKeepsOrderSaid : Prop := fnKeepsOrderRow.holds Try.pinned (OpenSpec.ofChange fnKeepsOrderSpec)

/-- ITS FALSE NEIGHBOUR: 'it returns false'. Refute it at one input. -/
def fnKeepsOrderWrong : ChangeSpec := { name := "fnKeepsOrder", fn := fun _ => fun
  | [d] => { results := [.lit (.bool false)], args := [d] }
  | _ => none }
def FnKeepsOrderWrongFalsely : Prop := fnKeepsOrderRow.holds Try.pinned (OpenSpec.ofChange fnKeepsOrderWrong)

/-- 'laws.FnLastMet': WHATEVER THE INPUT: true; the input reads as it did. -/
def fnLastMetSpec : ChangeSpec := { name := "fnLastMet", fn := fun _ => fun
  | [d] => { results := [.lit (.bool true)], args := [d] }
  | _ => none }
def fnLastMetRow : OpenClaim := { program := "ytmjbklmjehjpoaa", sum := "e24fa24551da73d25f8cd9001168f39a591d0cf93925bf43e253efa976084ec4", func := "loop.example/objectmodel/laws.FnLastMet", spec := "fnLastMet", recurses := true, apart := false }
def FnLastMetSaid : Prop := fnLastMetRow.holds Try.pinned (OpenSpec.ofChange fnLastMetSpec)

/-- ITS FALSE NEIGHBOUR: 'it returns false'. Refute it at one input. -/
def fnLastMetWrong : ChangeSpec := { name := "fnLastMet", fn := fun _ => fun
  | [d] => { results := [.lit (.bool false)], args := [d] }
  | _ => none }
def FnLastMetWrongFalsely : Prop := fnLastMetRow.holds Try.pinned (OpenSpec.ofChange fnLastMetWrong)

/-- 'laws.FnExactLastMet': WHATEVER THE INPUT: true; the input reads as it did. -/
def fnExactLastMetSpec : ChangeSpec := { name := "fnExactLastMet", fn := fun _ => fun
  | [d1, d2] => { results := [.lit (.bool true)], args := [d1, d2] }
  | _ => none }
def fnExactLastMetRow : OpenClaim := { program := "ytmjbklmjehjpoaa", sum := "e24fa24551da73d25f8cd9001168f39a591d0cf93925bf43e253efa976084ec4", func := "loop.example/objectmodel/laws.FnExactLastMet", spec := "fnExactLastMet", recurses := true, apart := false }
def FnExactLastMetSaid : Prop := fnExactLastMetRow.holds Try.pinned (OpenSpec.ofChange fnExactLastMetSpec)

/-- ITS FALSE NEIGHBOUR: 'it returns false'. Refute it at one input. -/
def fnExactLastMetWrong : ChangeSpec := { name := "fnExactLastMet", fn := fun _ => fun
  | [d1, d2] => { results := [.lit (.bool false)], args := [d1, d2] }
  | _ => none }
def FnExactLastMetWrongFalsely : Prop := fnExactLastMetRow.holds Try.pinned (OpenSpec.ofChange fnExactLastMetWrong)

/-- 'laws.FnDepthFirstLine': WHATEVER THE INPUT: true; the input reads as it did. -/
def fnDepthFirstLineSpec : ChangeSpec := { name := "fnDepthFirstLine", fn := fun _ => fun
  | [d] => { results := [.lit (.bool true)], args := [d] }
  | _ => none }
def fnDepthFirstLineRow : OpenClaim := { program := "ytmjbklmjehjpoaa", sum := "e24fa24551da73d25f8cd9001168f39a591d0cf93925bf43e253efa976084ec4", func := "loop.example/objectmodel/laws.FnDepthFirstLine", spec := "fnDepthFirstLine", recurses := true, apart := false }
def FnDepthFirstLineSaid : Prop := fnDepthFirstLineRow.holds Try.pinned (OpenSpec.ofChange fnDepthFirstLineSpec)

/-- ITS FALSE NEIGHBOUR: 'it returns false'. Refute it at one input. -/
def fnDepthFirstLineWrong : ChangeSpec := { name := "fnDepthFirstLine", fn := fun _ => fun
  | [d] => { results := [.lit (.bool false)], args := [d] }
  | _ => none }
def FnDepthFirstLineWrongFalsely : Prop := fnDepthFirstLineRow.holds Try.pinned (OpenSpec.ofChange fnDepthFirstLineWrong)

/-- 'laws.FnExactAddClass': WHATEVER THE INPUT: true; the input reads as it did. -/
def fnExactAddClassSpec : ChangeSpec := { name := "fnExactAddClass", fn := fun _ => fun
  | [d1, d2] => { results := [.lit (.bool true)], args := [d1, d2] }
  | _ => none }
def fnExactAddClassRow : OpenClaim := { program := "ytmjbklmjehjpoaa", sum := "e24fa24551da73d25f8cd9001168f39a591d0cf93925bf43e253efa976084ec4", func := "loop.example/objectmodel/laws.FnExactAddClass", spec := "fnExactAddClass", recurses := true, apart := false }
def FnExactAddClassSaid : Prop := fnExactAddClassRow.holds Try.pinned (OpenSpec.ofChange fnExactAddClassSpec)

/-- ITS FALSE NEIGHBOUR: 'it returns false'. Refute it at one input. -/
def fnExactAddClassWrong : ChangeSpec := { name := "fnExactAddClass", fn := fun _ => fun
  | [d1, d2] => { results := [.lit (.bool false)], args := [d1, d2] }
  | _ => none }
def FnExactAddClassWrongFalsely : Prop := fnExactAddClassRow.holds Try.pinned (OpenSpec.ofChange fnExactAddClassWrong)

/-- 'laws.FnAddClass': WHATEVER THE INPUT: true; the input reads as it did. -/
def fnAddClassSpec : ChangeSpec := { name := "fnAddClass", fn := fun _ => fun
  | [d] => { results := [.lit (.bool true)], args := [d] }
  | _ => none }
def fnAddClassRow : OpenClaim := { program := "ytmjbklmjehjpoaa", sum := "e24fa24551da73d25f8cd9001168f39a591d0cf93925bf43e253efa976084ec4", func := "loop.example/objectmodel/laws.FnAddClass", spec := "fnAddClass", recurses := true, apart := false }
def FnAddClassSaid : Prop := fnAddClassRow.holds Try.pinned (OpenSpec.ofChange fnAddClassSpec)

/-- ITS FALSE NEIGHBOUR: 'it returns false'. Refute it at one input. -/
def fnAddClassWrong : ChangeSpec := { name := "fnAddClass", fn := fun _ => fun
  | [d] => { results := [.lit (.bool false)], args := [d] }
  | _ => none }
def FnAddClassWrongFalsely : Prop := fnAddClassRow.holds Try.pinned (OpenSpec.ofChange fnAddClassWrong)

/-- 'laws.FnAllOrders': WHATEVER THE INPUT: true; the input reads as it did. -/
def fnAllOrdersSpec : ChangeSpec := { name := "fnAllOrders", fn := fun _ => fun
  | [d] => { results := [.lit (.bool true)], args := [d] }
  | _ => none }
def fnAllOrdersRow : OpenClaim := { program := "ytmjbklmjehjpoaa", sum := "e24fa24551da73d25f8cd9001168f39a591d0cf93925bf43e253efa976084ec4", func := "loop.example/objectmodel/laws.FnAllOrders", spec := "fnAllOrders", recurses := true, apart := false }
def FnAllOrdersSaid : Prop := fnAllOrdersRow.holds Try.pinned (OpenSpec.ofChange fnAllOrdersSpec)

/-- ITS FALSE NEIGHBOUR: 'it returns false'. Refute it at one input. -/
def fnAllOrdersWrong : ChangeSpec := { name := "fnAllOrders", fn := fun _ => fun
  | [d] => { results := [.lit (.bool false)], args := [d] }
  | _ => none }
def FnAllOrdersWrongFalsely : Prop := fnAllOrdersRow.holds Try.pinned (OpenSpec.ofChange fnAllOrdersWrong)

/-- 'laws.FnCountOrders': WHATEVER THE INPUT: true; the input reads as it did. -/
def fnCountOrdersSpec : ChangeSpec := { name := "fnCountOrders", fn := fun _ => fun
  | [d] => { results := [.lit (.bool true)], args := [d] }
  | _ => none }
def fnCountOrdersRow : OpenClaim := { program := "ytmjbklmjehjpoaa", sum := "e24fa24551da73d25f8cd9001168f39a591d0cf93925bf43e253efa976084ec4", func := "loop.example/objectmodel/laws.FnCountOrders", spec := "fnCountOrders", recurses := true, apart := false }
def FnCountOrdersSaid : Prop := fnCountOrdersRow.holds Try.pinned (OpenSpec.ofChange fnCountOrdersSpec)

/-- ITS FALSE NEIGHBOUR: 'it returns false'. Refute it at one input. -/
def fnCountOrdersWrong : ChangeSpec := { name := "fnCountOrders", fn := fun _ => fun
  | [d] => { results := [.lit (.bool false)], args := [d] }
  | _ => none }
def FnCountOrdersWrongFalsely : Prop := fnCountOrdersRow.holds Try.pinned (OpenSpec.ofChange fnCountOrdersWrong)

/-- 'laws.FnExactCountOrders': WHATEVER THE INPUT: true; the input reads as it did. -/
def fnExactCountOrdersSpec : ChangeSpec := { name := "fnExactCountOrders", fn := fun _ => fun
  | [d] => { results := [.lit (.bool true)], args := [d] }
  | _ => none }
def fnExactCountOrdersRow : OpenClaim := { program := "ytmjbklmjehjpoaa", sum := "e24fa24551da73d25f8cd9001168f39a591d0cf93925bf43e253efa976084ec4", func := "loop.example/objectmodel/laws.FnExactCountOrders", spec := "fnExactCountOrders", recurses := true, apart := false }
def FnExactCountOrdersSaid : Prop := fnExactCountOrdersRow.holds Try.pinned (OpenSpec.ofChange fnExactCountOrdersSpec)

/-- ITS FALSE NEIGHBOUR: 'it returns false'. Refute it at one input. -/
def fnExactCountOrdersWrong : ChangeSpec := { name := "fnExactCountOrders", fn := fun _ => fun
  | [d] => { results := [.lit (.bool false)], args := [d] }
  | _ => none }
def FnExactCountOrdersWrongFalsely : Prop := fnExactCountOrdersRow.holds Try.pinned (OpenSpec.ofChange fnExactCountOrdersWrong)

/- THE SECOND FORM. 'bulk': how many values and letters a reading holds, each counted each time it is reached (what is shared counts as often as it is met; a slice's spare places count too). A statement '..UptoSaid' is the law's where the arguments, and the package variables that the reading takes, are together of bulk at most 1048576: NARROWER than '..Said'. Prove '..Said' where nothing that the law and all that it calls make is longer than what came in: it says more and counts as full. Else prove '..UptoSaid'. A law counts once. -/
mutual
def uptoBulk {H : Type} : DataW H → Nat
  | .lit (.string bytes) => bytes.length + 1
  | .lit _ => 1
  | .nil => 1
  | .ptr d => uptoBulk d + 1
  | .slice elems spare => uptoBulkAll elems + uptoBulkAll spare + 1
  | .agg parts => uptoBulkAll parts + 1
  | .iface _ d => uptoBulk d + 1
  | .map entries => uptoBulkEntries entries + 1
  | .held _ => 1
def uptoBulkAll {H : Type} : List (DataW H) → Nat
  | [] => 0
  | d :: r => uptoBulk d + uptoBulkAll r
def uptoBulkEntries {H : Type} : List (Lit × DataW H) → Nat
  | [] => 0
  | x :: r => uptoBulkEntry x + uptoBulkEntries r
def uptoBulkEntry {H : Type} : Lit × DataW H → Nat
  | (.string bytes, d) => bytes.length + uptoBulk d + 1
  | (_, d) => uptoBulk d + 1
 end
def uptoSmall : (H : Type) → List (DataW H) → Bool := fun _ ds => decide (uptoBulkAll ds ≤ 1048576)
def OpenSpec.upto (s : _root_.Go.ChangeSpec) : _root_.Go.OpenSpec := { _root_.Go.OpenSpec.ofChange s with cond := some uptoSmall }

/-- 'laws.FnMergeLists', WHERE WHAT IT READS IS OF BULK AT MOST 1048576: true; the input reads as it did. -/
def fnMergeListsUptoRow : OpenClaim := { program := "ytmjbklmjehjpoaa", sum := "e24fa24551da73d25f8cd9001168f39a591d0cf93925bf43e253efa976084ec4", func := "loop.example/objectmodel/laws.FnMergeLists", spec := "fnMergeLists", recurses := true, apart := false, narrowed := true }
def FnMergeListsUptoSaid : Prop := fnMergeListsUptoRow.holds Try.pinned (OpenSpec.upto fnMergeListsSpec)

/-- 'laws.FnMergeListsAgain', WHERE WHAT IT READS IS OF BULK AT MOST 1048576: true; the input reads as it did. -/
def fnMergeListsAgainUptoRow : OpenClaim := { program := "ytmjbklmjehjpoaa", sum := "e24fa24551da73d25f8cd9001168f39a591d0cf93925bf43e253efa976084ec4", func := "loop.example/objectmodel/laws.FnMergeListsAgain", spec := "fnMergeListsAgain", recurses := true, apart := false, narrowed := true }
def FnMergeListsAgainUptoSaid : Prop := fnMergeListsAgainUptoRow.holds Try.pinned (OpenSpec.upto fnMergeListsAgainSpec)

/-- 'laws.FnStuckHeads', WHERE WHAT IT READS IS OF BULK AT MOST 1048576: true; the input reads as it did. -/
def fnStuckHeadsUptoRow : OpenClaim := { program := "ytmjbklmjehjpoaa", sum := "e24fa24551da73d25f8cd9001168f39a591d0cf93925bf43e253efa976084ec4", func := "loop.example/objectmodel/laws.FnStuckHeads", spec := "fnStuckHeads", recurses := true, apart := false, narrowed := true }
def FnStuckHeadsUptoSaid : Prop := fnStuckHeadsUptoRow.holds Try.pinned (OpenSpec.upto fnStuckHeadsSpec)

/-- 'laws.FnKeepsOrder', WHERE WHAT IT READS IS OF BULK AT MOST 1048576: true; the input reads as it did. -/
def fnKeepsOrderUptoRow : OpenClaim := { program := "ytmjbklmjehjpoaa", sum := "e24fa24551da73d25f8cd9001168f39a591d0cf93925bf43e253efa976084ec4", func := "loop.example/objectmodel/laws.FnKeepsOrder", spec := "fnKeepsOrder", apart := false, narrowed := true }
def FnKeepsOrderUptoSaid : Prop := fnKeepsOrderUptoRow.holds Try.pinned (OpenSpec.upto fnKeepsOrderSpec)

/-- 'laws.FnLastMet', WHERE WHAT IT READS IS OF BULK AT MOST 1048576: true; the input reads as it did. -/
def fnLastMetUptoRow : OpenClaim := { program := "ytmjbklmjehjpoaa", sum := "e24fa24551da73d25f8cd9001168f39a591d0cf93925bf43e253efa976084ec4", func := "loop.example/objectmodel/laws.FnLastMet", spec := "fnLastMet", recurses := true, apart := false, narrowed := true }
def FnLastMetUptoSaid : Prop := fnLastMetUptoRow.holds Try.pinned (OpenSpec.upto fnLastMetSpec)

/-- 'laws.FnExactLastMet', WHERE WHAT IT READS IS OF BULK AT MOST 1048576: true; the input reads as it did. -/
def fnExactLastMetUptoRow : OpenClaim := { program := "ytmjbklmjehjpoaa", sum := "e24fa24551da73d25f8cd9001168f39a591d0cf93925bf43e253efa976084ec4", func := "loop.example/objectmodel/laws.FnExactLastMet", spec := "fnExactLastMet", recurses := true, apart := false, narrowed := true }
def FnExactLastMetUptoSaid : Prop := fnExactLastMetUptoRow.holds Try.pinned (OpenSpec.upto fnExactLastMetSpec)

/-- 'laws.FnDepthFirstLine', WHERE WHAT IT READS IS OF BULK AT MOST 1048576: true; the input reads as it did. -/
def fnDepthFirstLineUptoRow : OpenClaim := { program := "ytmjbklmjehjpoaa", sum := "e24fa24551da73d25f8cd9001168f39a591d0cf93925bf43e253efa976084ec4", func := "loop.example/objectmodel/laws.FnDepthFirstLine", spec := "fnDepthFirstLine", recurses := true, apart := false, narrowed := true }
def FnDepthFirstLineUptoSaid : Prop := fnDepthFirstLineUptoRow.holds Try.pinned (OpenSpec.upto fnDepthFirstLineSpec)

/-- 'laws.FnExactAddClass', WHERE WHAT IT READS IS OF BULK AT MOST 1048576: true; the input reads as it did. -/
def fnExactAddClassUptoRow : OpenClaim := { program := "ytmjbklmjehjpoaa", sum := "e24fa24551da73d25f8cd9001168f39a591d0cf93925bf43e253efa976084ec4", func := "loop.example/objectmodel/laws.FnExactAddClass", spec := "fnExactAddClass", recurses := true, apart := false, narrowed := true }
def FnExactAddClassUptoSaid : Prop := fnExactAddClassUptoRow.holds Try.pinned (OpenSpec.upto fnExactAddClassSpec)

/-- 'laws.FnAddClass', WHERE WHAT IT READS IS OF BULK AT MOST 1048576: true; the input reads as it did. -/
def fnAddClassUptoRow : OpenClaim := { program := "ytmjbklmjehjpoaa", sum := "e24fa24551da73d25f8cd9001168f39a591d0cf93925bf43e253efa976084ec4", func := "loop.example/objectmodel/laws.FnAddClass", spec := "fnAddClass", recurses := true, apart := false, narrowed := true }
def FnAddClassUptoSaid : Prop := fnAddClassUptoRow.holds Try.pinned (OpenSpec.upto fnAddClassSpec)

/-- 'laws.FnAllOrders', WHERE WHAT IT READS IS OF BULK AT MOST 1048576: true; the input reads as it did. -/
def fnAllOrdersUptoRow : OpenClaim := { program := "ytmjbklmjehjpoaa", sum := "e24fa24551da73d25f8cd9001168f39a591d0cf93925bf43e253efa976084ec4", func := "loop.example/objectmodel/laws.FnAllOrders", spec := "fnAllOrders", recurses := true, apart := false, narrowed := true }
def FnAllOrdersUptoSaid : Prop := fnAllOrdersUptoRow.holds Try.pinned (OpenSpec.upto fnAllOrdersSpec)

/-- 'laws.FnCountOrders', WHERE WHAT IT READS IS OF BULK AT MOST 1048576: true; the input reads as it did. -/
def fnCountOrdersUptoRow : OpenClaim := { program := "ytmjbklmjehjpoaa", sum := "e24fa24551da73d25f8cd9001168f39a591d0cf93925bf43e253efa976084ec4", func := "loop.example/objectmodel/laws.FnCountOrders", spec := "fnCountOrders", recurses := true, apart := false, narrowed := true }
def FnCountOrdersUptoSaid : Prop := fnCountOrdersUptoRow.holds Try.pinned (OpenSpec.upto fnCountOrdersSpec)

/-- 'laws.FnExactCountOrders', WHERE WHAT IT READS IS OF BULK AT MOST 1048576: true; the input reads as it did. -/
def fnExactCountOrdersUptoRow : OpenClaim := { program := "ytmjbklmjehjpoaa", sum := "e24fa24551da73d25f8cd9001168f39a591d0cf93925bf43e253efa976084ec4", func := "loop.example/objectmodel/laws.FnExactCountOrders", spec := "fnExactCountOrders", recurses := true, apart := false, narrowed := true }
def FnExactCountOrdersUptoSaid : Prop := fnExactCountOrdersUptoRow.holds Try.pinned (OpenSpec.upto fnExactCountOrdersSpec)

end Rows
end Go.Proofs.Ytmjbklmjehjpoaa
