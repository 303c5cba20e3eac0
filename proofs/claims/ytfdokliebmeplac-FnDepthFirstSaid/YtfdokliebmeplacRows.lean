/-
  No cell of these rows narrows 'for every input' (looked for: loops, veiled, ifaces, maps, wideKeys, modest, calm, conditions, laid).
  DERIVED. THE GIVEN ROWS OF THIS SEAT. 12 by the template 'for every input the law returns true; each argument reads behind the call as it read before'; 0 by the template 'total and deterministic' (their statements: YtfdokliebmeplacTotals.lean).
  GIVEN WITH THE SEED: the statements are not yours to turn. If you find one false, say at which input.
  Laid BY PROGRAM, IN A SANDBOX (cutbox-rows.mjs): the forced cells as the released guide's own fill.sh prints them over the translation 502fda6793be4547… (all of the seat's roots in one cut). By AI agents, Wed Nov 11 2026. No macro, syntax, notation, axiom, sorry.
-/
import Derived.Test.YtfdokliebmeplacChecked
import GoSem.Claim
import GoSem.ClaimJoined
import GoSem.ClaimMapViews
import Derived.JoinedTies
import Derived.KernelRfl
namespace Go.Proofs.Ytfdokliebmeplac
/- THE CELL 'sum', in the pinned program and in every row, IS THE sha256 OF THE DUMP (.gsa) THAT YtfdokliebmeplacProg.lean LOADS. Nothing in Lean hashes anything: it is a label: what it is worth is what the hold of that sum in a sandbox is worth. -/
noncomputable def Try.pinned : Pinned := { name := "ytfdokliebmeplac", sum := "502fda6793be45479b07a7dbb44503211bf1812b75929eba7e1cebadf86e74be", checked := Try.checked }
namespace Rows
def none {H : Type} : Left H := { results := [], args := [] }

/-- 'laws.FnCanBecome': WHATEVER THE INPUT: true; the input reads as it did. -/
def fnCanBecomeSpec : ChangeSpec := { name := "fnCanBecome", fn := fun _ => fun
  | [d] => { results := [.lit (.bool true)], args := [d] }
  | _ => none }
def fnCanBecomeRow : OpenClaim := { program := "ytfdokliebmeplac", sum := "502fda6793be45479b07a7dbb44503211bf1812b75929eba7e1cebadf86e74be", func := "loop.example/objectmodel/laws.FnCanBecome", spec := "fnCanBecome", recurses := true, apart := false }
def FnCanBecomeSaid : Prop := fnCanBecomeRow.holds Try.pinned (OpenSpec.ofChange fnCanBecomeSpec)

/-- ITS FALSE NEIGHBOUR: 'it returns false'. Refute it at one input. -/
def fnCanBecomeWrong : ChangeSpec := { name := "fnCanBecome", fn := fun _ => fun
  | [d] => { results := [.lit (.bool false)], args := [d] }
  | _ => none }
def FnCanBecomeWrongFalsely : Prop := fnCanBecomeRow.holds Try.pinned (OpenSpec.ofChange fnCanBecomeWrong)

/-- 'laws.FnFieldsOf': WHATEVER THE INPUT: true; the input reads as it did. -/
def fnFieldsOfSpec : ChangeSpec := { name := "fnFieldsOf", fn := fun _ => fun
  | [d] => { results := [.lit (.bool true)], args := [d] }
  | _ => none }
def fnFieldsOfRow : OpenClaim := { program := "ytfdokliebmeplac", sum := "502fda6793be45479b07a7dbb44503211bf1812b75929eba7e1cebadf86e74be", func := "loop.example/objectmodel/laws.FnFieldsOf", spec := "fnFieldsOf", recurses := true, apart := false }
def FnFieldsOfSaid : Prop := fnFieldsOfRow.holds Try.pinned (OpenSpec.ofChange fnFieldsOfSpec)

/-- ITS FALSE NEIGHBOUR: 'it returns false'. Refute it at one input. -/
def fnFieldsOfWrong : ChangeSpec := { name := "fnFieldsOf", fn := fun _ => fun
  | [d] => { results := [.lit (.bool false)], args := [d] }
  | _ => none }
def FnFieldsOfWrongFalsely : Prop := fnFieldsOfRow.holds Try.pinned (OpenSpec.ofChange fnFieldsOfWrong)

/-- 'laws.FnExactFieldsOf': WHATEVER THE INPUT: true; the input reads as it did. -/
def fnExactFieldsOfSpec : ChangeSpec := { name := "fnExactFieldsOf", fn := fun _ => fun
  | [d1, d2, d3] => { results := [.lit (.bool true)], args := [d1, d2, d3] }
  | _ => none }
def fnExactFieldsOfRow : OpenClaim := { program := "ytfdokliebmeplac", sum := "502fda6793be45479b07a7dbb44503211bf1812b75929eba7e1cebadf86e74be", func := "loop.example/objectmodel/laws.FnExactFieldsOf", spec := "fnExactFieldsOf", recurses := true, apart := false }
def FnExactFieldsOfSaid : Prop := fnExactFieldsOfRow.holds Try.pinned (OpenSpec.ofChange fnExactFieldsOfSpec)

/-- ITS FALSE NEIGHBOUR: 'it returns false'. Refute it at one input. -/
def fnExactFieldsOfWrong : ChangeSpec := { name := "fnExactFieldsOf", fn := fun _ => fun
  | [d1, d2, d3] => { results := [.lit (.bool false)], args := [d1, d2, d3] }
  | _ => none }
def FnExactFieldsOfWrongFalsely : Prop := fnExactFieldsOfRow.holds Try.pinned (OpenSpec.ofChange fnExactFieldsOfWrong)

/-- 'laws.FnHiddenFields': WHATEVER THE INPUT: true; the input reads as it did. -/
def fnHiddenFieldsSpec : ChangeSpec := { name := "fnHiddenFields", fn := fun _ => fun
  | [d] => { results := [.lit (.bool true)], args := [d] }
  | _ => none }
def fnHiddenFieldsRow : OpenClaim := { program := "ytfdokliebmeplac", sum := "502fda6793be45479b07a7dbb44503211bf1812b75929eba7e1cebadf86e74be", func := "loop.example/objectmodel/laws.FnHiddenFields", spec := "fnHiddenFields", recurses := true, apart := false }
def FnHiddenFieldsSaid : Prop := fnHiddenFieldsRow.holds Try.pinned (OpenSpec.ofChange fnHiddenFieldsSpec)

/-- ITS FALSE NEIGHBOUR: 'it returns false'. Refute it at one input. -/
def fnHiddenFieldsWrong : ChangeSpec := { name := "fnHiddenFields", fn := fun _ => fun
  | [d] => { results := [.lit (.bool false)], args := [d] }
  | _ => none }
def FnHiddenFieldsWrongFalsely : Prop := fnHiddenFieldsRow.holds Try.pinned (OpenSpec.ofChange fnHiddenFieldsWrong)

/-- 'laws.FnExactHiddenFields': WHATEVER THE INPUT: true; the input reads as it did. -/
def fnExactHiddenFieldsSpec : ChangeSpec := { name := "fnExactHiddenFields", fn := fun _ => fun
  | [d1, d2, d3] => { results := [.lit (.bool true)], args := [d1, d2, d3] }
  | _ => none }
def fnExactHiddenFieldsRow : OpenClaim := { program := "ytfdokliebmeplac", sum := "502fda6793be45479b07a7dbb44503211bf1812b75929eba7e1cebadf86e74be", func := "loop.example/objectmodel/laws.FnExactHiddenFields", spec := "fnExactHiddenFields", recurses := true, apart := false }
def FnExactHiddenFieldsSaid : Prop := fnExactHiddenFieldsRow.holds Try.pinned (OpenSpec.ofChange fnExactHiddenFieldsSpec)

/-- ITS FALSE NEIGHBOUR: 'it returns false'. Refute it at one input. -/
def fnExactHiddenFieldsWrong : ChangeSpec := { name := "fnExactHiddenFields", fn := fun _ => fun
  | [d1, d2, d3] => { results := [.lit (.bool false)], args := [d1, d2, d3] }
  | _ => none }
def FnExactHiddenFieldsWrongFalsely : Prop := fnExactHiddenFieldsRow.holds Try.pinned (OpenSpec.ofChange fnExactHiddenFieldsWrong)

/-- 'laws.FnDepthFirst': WHATEVER THE INPUT: true; the input reads as it did. -/
def fnDepthFirstSpec : ChangeSpec := { name := "fnDepthFirst", fn := fun _ => fun
  | [d] => { results := [.lit (.bool true)], args := [d] }
  | _ => none }
def fnDepthFirstRow : OpenClaim := { program := "ytfdokliebmeplac", sum := "502fda6793be45479b07a7dbb44503211bf1812b75929eba7e1cebadf86e74be", func := "loop.example/objectmodel/laws.FnDepthFirst", spec := "fnDepthFirst", recurses := true, apart := false }
def FnDepthFirstSaid : Prop := fnDepthFirstRow.holds Try.pinned (OpenSpec.ofChange fnDepthFirstSpec)

/-- ITS FALSE NEIGHBOUR: 'it returns false'. Refute it at one input. -/
def fnDepthFirstWrong : ChangeSpec := { name := "fnDepthFirst", fn := fun _ => fun
  | [d] => { results := [.lit (.bool false)], args := [d] }
  | _ => none }
def FnDepthFirstWrongFalsely : Prop := fnDepthFirstRow.holds Try.pinned (OpenSpec.ofChange fnDepthFirstWrong)

/-- 'laws.FnExactDepthFirst': WHATEVER THE INPUT: true; the input reads as it did. -/
def fnExactDepthFirstSpec : ChangeSpec := { name := "fnExactDepthFirst", fn := fun _ => fun
  | [d1, d2] => { results := [.lit (.bool true)], args := [d1, d2] }
  | _ => none }
def fnExactDepthFirstRow : OpenClaim := { program := "ytfdokliebmeplac", sum := "502fda6793be45479b07a7dbb44503211bf1812b75929eba7e1cebadf86e74be", func := "loop.example/objectmodel/laws.FnExactDepthFirst", spec := "fnExactDepthFirst", recurses := true, apart := false }
def FnExactDepthFirstSaid : Prop := fnExactDepthFirstRow.holds Try.pinned (OpenSpec.ofChange fnExactDepthFirstSpec)

/-- ITS FALSE NEIGHBOUR: 'it returns false'. Refute it at one input. -/
def fnExactDepthFirstWrong : ChangeSpec := { name := "fnExactDepthFirst", fn := fun _ => fun
  | [d1, d2] => { results := [.lit (.bool false)], args := [d1, d2] }
  | _ => none }
def FnExactDepthFirstWrongFalsely : Prop := fnExactDepthFirstRow.holds Try.pinned (OpenSpec.ofChange fnExactDepthFirstWrong)

/-- 'laws.FnLastMet': WHATEVER THE INPUT: true; the input reads as it did. -/
def fnLastMetSpec : ChangeSpec := { name := "fnLastMet", fn := fun _ => fun
  | [d] => { results := [.lit (.bool true)], args := [d] }
  | _ => none }
def fnLastMetRow : OpenClaim := { program := "ytfdokliebmeplac", sum := "502fda6793be45479b07a7dbb44503211bf1812b75929eba7e1cebadf86e74be", func := "loop.example/objectmodel/laws.FnLastMet", spec := "fnLastMet", recurses := true, apart := false }
def FnLastMetSaid : Prop := fnLastMetRow.holds Try.pinned (OpenSpec.ofChange fnLastMetSpec)

/-- ITS FALSE NEIGHBOUR: 'it returns false'. Refute it at one input. -/
def fnLastMetWrong : ChangeSpec := { name := "fnLastMet", fn := fun _ => fun
  | [d] => { results := [.lit (.bool false)], args := [d] }
  | _ => none }
def FnLastMetWrongFalsely : Prop := fnLastMetRow.holds Try.pinned (OpenSpec.ofChange fnLastMetWrong)

/-- 'laws.FnExactLastMet': WHATEVER THE INPUT: true; the input reads as it did. -/
def fnExactLastMetSpec : ChangeSpec := { name := "fnExactLastMet", fn := fun _ => fun
  | [d1, d2] => { results := [.lit (.bool true)], args := [d1, d2] }
  | _ => none }
def fnExactLastMetRow : OpenClaim := { program := "ytfdokliebmeplac", sum := "502fda6793be45479b07a7dbb44503211bf1812b75929eba7e1cebadf86e74be", func := "loop.example/objectmodel/laws.FnExactLastMet", spec := "fnExactLastMet", recurses := true, apart := false }
def FnExactLastMetSaid : Prop := fnExactLastMetRow.holds Try.pinned (OpenSpec.ofChange fnExactLastMetSpec)

/-- ITS FALSE NEIGHBOUR: 'it returns false'. Refute it at one input. -/
def fnExactLastMetWrong : ChangeSpec := { name := "fnExactLastMet", fn := fun _ => fun
  | [d1, d2] => { results := [.lit (.bool false)], args := [d1, d2] }
  | _ => none }
def FnExactLastMetWrongFalsely : Prop := fnExactLastMetRow.holds Try.pinned (OpenSpec.ofChange fnExactLastMetWrong)

/-- 'laws.FnDepthFirstLine': WHATEVER THE INPUT: true; the input reads as it did. -/
def fnDepthFirstLineSpec : ChangeSpec := { name := "fnDepthFirstLine", fn := fun _ => fun
  | [d] => { results := [.lit (.bool true)], args := [d] }
  | _ => none }
def fnDepthFirstLineRow : OpenClaim := { program := "ytfdokliebmeplac", sum := "502fda6793be45479b07a7dbb44503211bf1812b75929eba7e1cebadf86e74be", func := "loop.example/objectmodel/laws.FnDepthFirstLine", spec := "fnDepthFirstLine", recurses := true, apart := false }
def FnDepthFirstLineSaid : Prop := fnDepthFirstLineRow.holds Try.pinned (OpenSpec.ofChange fnDepthFirstLineSpec)

/-- ITS FALSE NEIGHBOUR: 'it returns false'. Refute it at one input. -/
def fnDepthFirstLineWrong : ChangeSpec := { name := "fnDepthFirstLine", fn := fun _ => fun
  | [d] => { results := [.lit (.bool false)], args := [d] }
  | _ => none }
def FnDepthFirstLineWrongFalsely : Prop := fnDepthFirstLineRow.holds Try.pinned (OpenSpec.ofChange fnDepthFirstLineWrong)

/-- 'laws.FnAllOrders': WHATEVER THE INPUT: true; the input reads as it did. -/
def fnAllOrdersSpec : ChangeSpec := { name := "fnAllOrders", fn := fun _ => fun
  | [d] => { results := [.lit (.bool true)], args := [d] }
  | _ => none }
def fnAllOrdersRow : OpenClaim := { program := "ytfdokliebmeplac", sum := "502fda6793be45479b07a7dbb44503211bf1812b75929eba7e1cebadf86e74be", func := "loop.example/objectmodel/laws.FnAllOrders", spec := "fnAllOrders", recurses := true, apart := false }
def FnAllOrdersSaid : Prop := fnAllOrdersRow.holds Try.pinned (OpenSpec.ofChange fnAllOrdersSpec)

/-- ITS FALSE NEIGHBOUR: 'it returns false'. Refute it at one input. -/
def fnAllOrdersWrong : ChangeSpec := { name := "fnAllOrders", fn := fun _ => fun
  | [d] => { results := [.lit (.bool false)], args := [d] }
  | _ => none }
def FnAllOrdersWrongFalsely : Prop := fnAllOrdersRow.holds Try.pinned (OpenSpec.ofChange fnAllOrdersWrong)

/-- 'laws.FnExactAllOrders': WHATEVER THE INPUT: true; the input reads as it did. -/
def fnExactAllOrdersSpec : ChangeSpec := { name := "fnExactAllOrders", fn := fun _ => fun
  | [d] => { results := [.lit (.bool true)], args := [d] }
  | _ => none }
def fnExactAllOrdersRow : OpenClaim := { program := "ytfdokliebmeplac", sum := "502fda6793be45479b07a7dbb44503211bf1812b75929eba7e1cebadf86e74be", func := "loop.example/objectmodel/laws.FnExactAllOrders", spec := "fnExactAllOrders", recurses := true, apart := false }
def FnExactAllOrdersSaid : Prop := fnExactAllOrdersRow.holds Try.pinned (OpenSpec.ofChange fnExactAllOrdersSpec)

/-- ITS FALSE NEIGHBOUR: 'it returns false'. Refute it at one input. -/
def fnExactAllOrdersWrong : ChangeSpec := { name := "fnExactAllOrders", fn := fun _ => fun
  | [d] => { results := [.lit (.bool false)], args := [d] }
  | _ => none }
def FnExactAllOrdersWrongFalsely : Prop := fnExactAllOrdersRow.holds Try.pinned (OpenSpec.ofChange fnExactAllOrdersWrong)

/- THE SECOND FORM. 'bulk': how many values and letters a reading holds, each counted each time it is reached (what is shared counts as often as it is met; a slice's spare places count too). A statement '..UptoSaid' is the law's where the arguments, and the package variables that the reading takes, are together of bulk at most 1048576: NARROWER than '..Said'. Prove '..Said' where nothing that the law and all that it calls make is longer than what came in: it says more and counts as full. Else prove '..UptoSaid'. A law counts once. -/
mutual
def uptoBulk {H : Type} : DataW H → Nat
  | .lit (.string bytes) => bytes.length + 1
  | .lit _ => 1
  | .nil => 1
  | .ptr d => uptoBulk d + 1
  | .slice elems spare => uptoBulkAll elems + uptoBulkAll spare + 1
  | .agg parts => uptoBulkAll parts + 1
  | .iface _ d => uptoBulk d + 1
  | .map entries => uptoBulkEntries entries + 1
  | .held _ => 1
def uptoBulkAll {H : Type} : List (DataW H) → Nat
  | [] => 0
  | d :: r => uptoBulk d + uptoBulkAll r
def uptoBulkEntries {H : Type} : List (Lit × DataW H) → Nat
  | [] => 0
  | x :: r => uptoBulkEntry x + uptoBulkEntries r
def uptoBulkEntry {H : Type} : Lit × DataW H → Nat
  | (.string bytes, d) => bytes.length + uptoBulk d + 1
  | (_, d) => uptoBulk d + 1
 end
def uptoSmall : (H : Type) → List (DataW H) → Bool := fun _ ds => decide (uptoBulkAll ds ≤ 1048576)
def OpenSpec.upto (s : _root_.Go.ChangeSpec) : _root_.Go.OpenSpec := { _root_.Go.OpenSpec.ofChange s with cond := some uptoSmall }

/-- 'laws.FnCanBecome', WHERE WHAT IT READS IS OF BULK AT MOST 1048576: true; the input reads as it did. -/
def fnCanBecomeUptoRow : OpenClaim := { program := "ytfdokliebmeplac", sum := "502fda6793be45479b07a7dbb44503211bf1812b75929eba7e1cebadf86e74be", func := "loop.example/objectmodel/laws.FnCanBecome", spec := "fnCanBecome", recurses := true, apart := false, narrowed := true }
def FnCanBecomeUptoSaid : Prop := fnCanBecomeUptoRow.holds Try.pinned (OpenSpec.upto fnCanBecomeSpec)

/-- 'laws.FnFieldsOf', WHERE WHAT IT READS IS OF BULK AT MOST 1048576: true; the input reads as it did. -/
def fnFieldsOfUptoRow : OpenClaim := { program := "ytfdokliebmeplac", sum := "502fda6793be45479b07a7dbb44503211bf1812b75929eba7e1cebadf86e74be", func := "loop.example/objectmodel/laws.FnFieldsOf", spec := "fnFieldsOf", recurses := true, apart := false, narrowed := true }
def FnFieldsOfUptoSaid : Prop := fnFieldsOfUptoRow.holds Try.pinned (OpenSpec.upto fnFieldsOfSpec)

/-- 'laws.FnExactFieldsOf', WHERE WHAT IT READS IS OF BULK AT MOST 1048576: true; the input reads as it did. -/
def fnExactFieldsOfUptoRow : OpenClaim := { program := "ytfdokliebmeplac", sum := "502fda6793be45479b07a7dbb44503211bf1812b75929eba7e1cebadf86e74be", func := "loop.example/objectmodel/laws.FnExactFieldsOf", spec := "fnExactFieldsOf", recurses := true, apart := false, narrowed := true }
def FnExactFieldsOfUptoSaid : Prop := fnExactFieldsOfUptoRow.holds Try.pinned (OpenSpec.upto fnExactFieldsOfSpec)

/-- 'laws.FnHiddenFields', WHERE WHAT IT READS IS OF BULK AT MOST 1048576: true; the input reads as it did. -/
def fnHiddenFieldsUptoRow : OpenClaim := { program := "ytfdokliebmeplac", sum := "502fda6793be45479b07a7dbb44503211bf1812b75929eba7e1cebadf86e74be", func := "loop.example/objectmodel/laws.FnHiddenFields", spec := "fnHiddenFields", recurses := true, apart := false, narrowed := true }
def FnHiddenFieldsUptoSaid : Prop := fnHiddenFieldsUptoRow.holds Try.pinned (OpenSpec.upto fnHiddenFieldsSpec)

/-- 'laws.FnExactHiddenFields', WHERE WHAT IT READS IS OF BULK AT MOST 1048576: true; the input reads as it did. -/
def fnExactHiddenFieldsUptoRow : OpenClaim := { program := "ytfdokliebmeplac", sum := "502fda6793be45479b07a7dbb44503211bf1812b75929eba7e1cebadf86e74be", func := "loop.example/objectmodel/laws.FnExactHiddenFields", spec := "fnExactHiddenFields", recurses := true, apart := false, narrowed := true }
def FnExactHiddenFieldsUptoSaid : Prop := fnExactHiddenFieldsUptoRow.holds Try.pinned (OpenSpec.upto fnExactHiddenFieldsSpec)

/-- 'laws.FnDepthFirst', WHERE WHAT IT READS IS OF BULK AT MOST 1048576: true; the input reads as it did. -/
def fnDepthFirstUptoRow : OpenClaim := { program := "ytfdokliebmeplac", sum := "502fda6793be45479b07a7dbb44503211bf1812b75929eba7e1cebadf86e74be", func := "loop.example/objectmodel/laws.FnDepthFirst", spec := "fnDepthFirst", recurses := true, apart := false, narrowed := true }
def FnDepthFirstUptoSaid : Prop := fnDepthFirstUptoRow.holds Try.pinned (OpenSpec.upto fnDepthFirstSpec)

/-- 'laws.FnExactDepthFirst', WHERE WHAT IT READS IS OF BULK AT MOST 1048576: true; the input reads as it did. -/
def fnExactDepthFirstUptoRow : OpenClaim := { program := "ytfdokliebmeplac", sum := "502fda6793be45479b07a7dbb44503211bf1812b75929eba7e1cebadf86e74be", func := "loop.example/objectmodel/laws.FnExactDepthFirst", spec := "fnExactDepthFirst", recurses := true, apart := false, narrowed := true }
def FnExactDepthFirstUptoSaid : Prop := fnExactDepthFirstUptoRow.holds Try.pinned (OpenSpec.upto fnExactDepthFirstSpec)

/-- 'laws.FnLastMet', WHERE WHAT IT READS IS OF BULK AT MOST 1048576: true; the input reads as it did. -/
def fnLastMetUptoRow : OpenClaim := { program := "ytfdokliebmeplac", sum := "502fda6793be45479b07a7dbb44503211bf1812b75929eba7e1cebadf86e74be", func := "loop.example/objectmodel/laws.FnLastMet", spec := "fnLastMet", recurses := true, apart := false, narrowed := true }
def FnLastMetUptoSaid : Prop := fnLastMetUptoRow.holds Try.pinned (OpenSpec.upto fnLastMetSpec)

/-- 'laws.FnExactLastMet', WHERE WHAT IT READS IS OF BULK AT MOST 1048576: true; the input reads as it did. -/
def fnExactLastMetUptoRow : OpenClaim := { program := "ytfdokliebmeplac", sum := "502fda6793be45479b07a7dbb44503211bf1812b75929eba7e1cebadf86e74be", func := "loop.example/objectmodel/laws.FnExactLastMet", spec := "fnExactLastMet", recurses := true, apart := false, narrowed := true }
def FnExactLastMetUptoSaid : Prop := fnExactLastMetUptoRow.holds Try.pinned (OpenSpec.upto fnExactLastMetSpec)

/-- 'laws.FnDepthFirstLine', WHERE WHAT IT READS IS OF BULK AT MOST 1048576: true; the input reads as it did. -/
def fnDepthFirstLineUptoRow : OpenClaim := { program := "ytfdokliebmeplac", sum := "502fda6793be45479b07a7dbb44503211bf1812b75929eba7e1cebadf86e74be", func := "loop.example/objectmodel/laws.FnDepthFirstLine", spec := "fnDepthFirstLine", recurses := true, apart := false, narrowed := true }
def FnDepthFirstLineUptoSaid : Prop := fnDepthFirstLineUptoRow.holds Try.pinned (OpenSpec.upto fnDepthFirstLineSpec)

/-- 'laws.FnAllOrders', WHERE WHAT IT READS IS OF BULK AT MOST 1048576: true; the input reads as it did. -/
def fnAllOrdersUptoRow : OpenClaim := { program := "ytfdokliebmeplac", sum := "502fda6793be45479b07a7dbb44503211bf1812b75929eba7e1cebadf86e74be", func := "loop.example/objectmodel/laws.FnAllOrders", spec := "fnAllOrders", recurses := true, apart := false, narrowed := true }
def FnAllOrdersUptoSaid : Prop := fnAllOrdersUptoRow.holds Try.pinned (OpenSpec.upto fnAllOrdersSpec)

/-- 'laws.FnExactAllOrders', WHERE WHAT IT READS IS OF BULK AT MOST 1048576: true; the input reads as it did. -/
def fnExactAllOrdersUptoRow : OpenClaim := { program := "ytfdokliebmeplac", sum := "502fda6793be45479b07a7dbb44503211bf1812b75929eba7e1cebadf86e74be", func := "loop.example/objectmodel/laws.FnExactAllOrders", spec := "fnExactAllOrders", recurses := true, apart := false, narrowed := true }
def FnExactAllOrdersUptoSaid : Prop := fnExactAllOrdersUptoRow.holds Try.pinned (OpenSpec.upto fnExactAllOrdersSpec)

end Rows
end Go.Proofs.Ytfdokliebmeplac
