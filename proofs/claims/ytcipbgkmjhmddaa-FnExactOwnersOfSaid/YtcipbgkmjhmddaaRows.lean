/-
  No cell of these rows narrows 'for every input' (looked for: loops, veiled, ifaces, maps, wideKeys, modest, calm, conditions, laid).
  DERIVED. THE GIVEN ROWS OF THIS SEAT. 11 by the template 'for every input the law returns true; each argument reads behind the call as it read before'; 0 by the template 'total and deterministic' (their statements: YtcipbgkmjhmddaaTotals.lean).
  GIVEN WITH THE SEED: the statements are not yours to turn. If you find one false, say at which input.
  Laid BY PROGRAM, IN A SANDBOX (cutbox-rows.mjs): the forced cells as the released guide's own fill.sh prints them over the translation 686b5fffa61fe473… (all of the seat's roots in one cut). By AI agents, Wed Nov 11 2026. No macro, syntax, notation, axiom, sorry.
-/
import Derived.Test.YtcipbgkmjhmddaaChecked
import GoSem.Claim
import GoSem.ClaimJoined
import GoSem.ClaimMapViews
import Derived.JoinedTies
import Derived.KernelRfl
namespace Go.Proofs.Ytcipbgkmjhmddaa
/- THE CELL 'sum', in the pinned program and in every row, IS THE sha256 OF THE DUMP (.gsa) THAT YtcipbgkmjhmddaaProg.lean LOADS. Nothing in Lean hashes anything: it is a label: what it is worth is what the hold of that sum in a sandbox is worth. -/
noncomputable def Try.pinned : Pinned := { name := "ytcipbgkmjhmddaa", sum := "686b5fffa61fe4730786b8229f6c2ca6c3f04569ec48de935b6f2f767820e8bf", checked := Try.checked }
namespace Rows
def none {H : Type} : Left H := { results := [], args := [] }

/-- 'laws.FnExactFieldsOf': WHATEVER THE INPUT: true; the input reads as it did. -/
def fnExactFieldsOfSpec : ChangeSpec := { name := "fnExactFieldsOf", fn := fun _ => fun
  | [d1, d2, d3] => { results := [.lit (.bool true)], args := [d1, d2, d3] }
  | _ => none }
def fnExactFieldsOfRow : OpenClaim := { program := "ytcipbgkmjhmddaa", sum := "686b5fffa61fe4730786b8229f6c2ca6c3f04569ec48de935b6f2f767820e8bf", func := "loop.example/objectmodel/laws.FnExactFieldsOf", spec := "fnExactFieldsOf", recurses := true, apart := false }
def FnExactFieldsOfSaid : Prop := fnExactFieldsOfRow.holds Try.pinned (OpenSpec.ofChange fnExactFieldsOfSpec)

/-- ITS FALSE NEIGHBOUR: 'it returns false'. Refute it at one input. -/
def fnExactFieldsOfWrong : ChangeSpec := { name := "fnExactFieldsOf", fn := fun _ => fun
  | [d1, d2, d3] => { results := [.lit (.bool false)], args := [d1, d2, d3] }
  | _ => none }
def FnExactFieldsOfWrongFalsely : Prop := fnExactFieldsOfRow.holds Try.pinned (OpenSpec.ofChange fnExactFieldsOfWrong)

/-- 'laws.FnNextAfter': WHATEVER THE INPUT: true; the input reads as it did. -/
def fnNextAfterSpec : ChangeSpec := { name := "fnNextAfter", fn := fun _ => fun
  | [d] => { results := [.lit (.bool true)], args := [d] }
  | _ => none }
def fnNextAfterRow : OpenClaim := { program := "ytcipbgkmjhmddaa", sum := "686b5fffa61fe4730786b8229f6c2ca6c3f04569ec48de935b6f2f767820e8bf", func := "loop.example/objectmodel/laws.FnNextAfter", spec := "fnNextAfter", recurses := true, apart := false }
def FnNextAfterSaid : Prop := fnNextAfterRow.holds Try.pinned (OpenSpec.ofChange fnNextAfterSpec)

/-- ITS FALSE NEIGHBOUR: 'it returns false'. Refute it at one input. -/
def fnNextAfterWrong : ChangeSpec := { name := "fnNextAfter", fn := fun _ => fun
  | [d] => { results := [.lit (.bool false)], args := [d] }
  | _ => none }
def FnNextAfterWrongFalsely : Prop := fnNextAfterRow.holds Try.pinned (OpenSpec.ofChange fnNextAfterWrong)

/-- 'laws.FnExactNextAfter': WHATEVER THE INPUT: true; the input reads as it did. -/
def fnExactNextAfterSpec : ChangeSpec := { name := "fnExactNextAfter", fn := fun _ => fun
  | [d1, d2, d3] => { results := [.lit (.bool true)], args := [d1, d2, d3] }
  | _ => none }
def fnExactNextAfterRow : OpenClaim := { program := "ytcipbgkmjhmddaa", sum := "686b5fffa61fe4730786b8229f6c2ca6c3f04569ec48de935b6f2f767820e8bf", func := "loop.example/objectmodel/laws.FnExactNextAfter", spec := "fnExactNextAfter", recurses := true, apart := false }
def FnExactNextAfterSaid : Prop := fnExactNextAfterRow.holds Try.pinned (OpenSpec.ofChange fnExactNextAfterSpec)

/-- ITS FALSE NEIGHBOUR: 'it returns false'. Refute it at one input. -/
def fnExactNextAfterWrong : ChangeSpec := { name := "fnExactNextAfter", fn := fun _ => fun
  | [d1, d2, d3] => { results := [.lit (.bool false)], args := [d1, d2, d3] }
  | _ => none }
def FnExactNextAfterWrongFalsely : Prop := fnExactNextAfterRow.holds Try.pinned (OpenSpec.ofChange fnExactNextAfterWrong)

/-- 'laws.FnExactValidScript': WHATEVER THE INPUT: true; the input reads as it did. -/
def fnExactValidScriptSpec : ChangeSpec := { name := "fnExactValidScript", fn := fun _ => fun
  | [d] => { results := [.lit (.bool true)], args := [d] }
  | _ => none }
def fnExactValidScriptRow : OpenClaim := { program := "ytcipbgkmjhmddaa", sum := "686b5fffa61fe4730786b8229f6c2ca6c3f04569ec48de935b6f2f767820e8bf", func := "loop.example/objectmodel/laws.FnExactValidScript", spec := "fnExactValidScript", recurses := true, apart := false }
def FnExactValidScriptSaid : Prop := fnExactValidScriptRow.holds Try.pinned (OpenSpec.ofChange fnExactValidScriptSpec)

/-- ITS FALSE NEIGHBOUR: 'it returns false'. Refute it at one input. -/
def fnExactValidScriptWrong : ChangeSpec := { name := "fnExactValidScript", fn := fun _ => fun
  | [d] => { results := [.lit (.bool false)], args := [d] }
  | _ => none }
def FnExactValidScriptWrongFalsely : Prop := fnExactValidScriptRow.holds Try.pinned (OpenSpec.ofChange fnExactValidScriptWrong)

/-- 'laws.FnExactGetAttr': WHATEVER THE INPUT: true; the input reads as it did. -/
def fnExactGetAttrSpec : ChangeSpec := { name := "fnExactGetAttr", fn := fun _ => fun
  | [d1, d2, d3] => { results := [.lit (.bool true)], args := [d1, d2, d3] }
  | _ => none }
def fnExactGetAttrRow : OpenClaim := { program := "ytcipbgkmjhmddaa", sum := "686b5fffa61fe4730786b8229f6c2ca6c3f04569ec48de935b6f2f767820e8bf", func := "loop.example/objectmodel/laws.FnExactGetAttr", spec := "fnExactGetAttr", unfollowed := true, recurses := true, apart := false }
def FnExactGetAttrSaid : Prop := fnExactGetAttrRow.holds Try.pinned (OpenSpec.ofChange fnExactGetAttrSpec)

/-- ITS FALSE NEIGHBOUR: 'it returns false'. Refute it at one input. -/
def fnExactGetAttrWrong : ChangeSpec := { name := "fnExactGetAttr", fn := fun _ => fun
  | [d1, d2, d3] => { results := [.lit (.bool false)], args := [d1, d2, d3] }
  | _ => none }
def FnExactGetAttrWrongFalsely : Prop := fnExactGetAttrRow.holds Try.pinned (OpenSpec.ofChange fnExactGetAttrWrong)

/-- 'laws.FnExactGetClassAttr': WHATEVER THE INPUT: true; the input reads as it did. -/
def fnExactGetClassAttrSpec : ChangeSpec := { name := "fnExactGetClassAttr", fn := fun _ => fun
  | [d1, d2, d3] => { results := [.lit (.bool true)], args := [d1, d2, d3] }
  | _ => none }
def fnExactGetClassAttrRow : OpenClaim := { program := "ytcipbgkmjhmddaa", sum := "686b5fffa61fe4730786b8229f6c2ca6c3f04569ec48de935b6f2f767820e8bf", func := "loop.example/objectmodel/laws.FnExactGetClassAttr", spec := "fnExactGetClassAttr", unfollowed := true, recurses := true, apart := false }
def FnExactGetClassAttrSaid : Prop := fnExactGetClassAttrRow.holds Try.pinned (OpenSpec.ofChange fnExactGetClassAttrSpec)

/-- ITS FALSE NEIGHBOUR: 'it returns false'. Refute it at one input. -/
def fnExactGetClassAttrWrong : ChangeSpec := { name := "fnExactGetClassAttr", fn := fun _ => fun
  | [d1, d2, d3] => { results := [.lit (.bool false)], args := [d1, d2, d3] }
  | _ => none }
def FnExactGetClassAttrWrongFalsely : Prop := fnExactGetClassAttrRow.holds Try.pinned (OpenSpec.ofChange fnExactGetClassAttrWrong)

/-- 'laws.FnExactSuperAttr': WHATEVER THE INPUT: true; the input reads as it did. -/
def fnExactSuperAttrSpec : ChangeSpec := { name := "fnExactSuperAttr", fn := fun _ => fun
  | [d1, d2, d3, d4] => { results := [.lit (.bool true)], args := [d1, d2, d3, d4] }
  | _ => none }
def fnExactSuperAttrRow : OpenClaim := { program := "ytcipbgkmjhmddaa", sum := "686b5fffa61fe4730786b8229f6c2ca6c3f04569ec48de935b6f2f767820e8bf", func := "loop.example/objectmodel/laws.FnExactSuperAttr", spec := "fnExactSuperAttr", unfollowed := true, recurses := true, apart := false }
def FnExactSuperAttrSaid : Prop := fnExactSuperAttrRow.holds Try.pinned (OpenSpec.ofChange fnExactSuperAttrSpec)

/-- ITS FALSE NEIGHBOUR: 'it returns false'. Refute it at one input. -/
def fnExactSuperAttrWrong : ChangeSpec := { name := "fnExactSuperAttr", fn := fun _ => fun
  | [d1, d2, d3, d4] => { results := [.lit (.bool false)], args := [d1, d2, d3, d4] }
  | _ => none }
def FnExactSuperAttrWrongFalsely : Prop := fnExactSuperAttrRow.holds Try.pinned (OpenSpec.ofChange fnExactSuperAttrWrong)

/-- 'laws.FnExactFindIn': WHATEVER THE INPUT: true; the input reads as it did. -/
def fnExactFindInSpec : ChangeSpec := { name := "fnExactFindIn", fn := fun _ => fun
  | [d1, d2, d3] => { results := [.lit (.bool true)], args := [d1, d2, d3] }
  | _ => none }
def fnExactFindInRow : OpenClaim := { program := "ytcipbgkmjhmddaa", sum := "686b5fffa61fe4730786b8229f6c2ca6c3f04569ec48de935b6f2f767820e8bf", func := "loop.example/objectmodel/laws.FnExactFindIn", spec := "fnExactFindIn", recurses := true, apart := false }
def FnExactFindInSaid : Prop := fnExactFindInRow.holds Try.pinned (OpenSpec.ofChange fnExactFindInSpec)

/-- ITS FALSE NEIGHBOUR: 'it returns false'. Refute it at one input. -/
def fnExactFindInWrong : ChangeSpec := { name := "fnExactFindIn", fn := fun _ => fun
  | [d1, d2, d3] => { results := [.lit (.bool false)], args := [d1, d2, d3] }
  | _ => none }
def FnExactFindInWrongFalsely : Prop := fnExactFindInRow.holds Try.pinned (OpenSpec.ofChange fnExactFindInWrong)

/-- 'laws.FnExactOwnersOf': WHATEVER THE INPUT: true; the input reads as it did. -/
def fnExactOwnersOfSpec : ChangeSpec := { name := "fnExactOwnersOf", fn := fun _ => fun
  | [d1, d2, d3] => { results := [.lit (.bool true)], args := [d1, d2, d3] }
  | _ => none }
def fnExactOwnersOfRow : OpenClaim := { program := "ytcipbgkmjhmddaa", sum := "686b5fffa61fe4730786b8229f6c2ca6c3f04569ec48de935b6f2f767820e8bf", func := "loop.example/objectmodel/laws.FnExactOwnersOf", spec := "fnExactOwnersOf", recurses := true, apart := false }
def FnExactOwnersOfSaid : Prop := fnExactOwnersOfRow.holds Try.pinned (OpenSpec.ofChange fnExactOwnersOfSpec)

/-- ITS FALSE NEIGHBOUR: 'it returns false'. Refute it at one input. -/
def fnExactOwnersOfWrong : ChangeSpec := { name := "fnExactOwnersOf", fn := fun _ => fun
  | [d1, d2, d3] => { results := [.lit (.bool false)], args := [d1, d2, d3] }
  | _ => none }
def FnExactOwnersOfWrongFalsely : Prop := fnExactOwnersOfRow.holds Try.pinned (OpenSpec.ofChange fnExactOwnersOfWrong)

/-- 'laws.FnValidWorld': WHATEVER THE INPUT: true; the input reads as it did. -/
def fnValidWorldSpec : ChangeSpec := { name := "fnValidWorld", fn := fun _ => fun
  | [d] => { results := [.lit (.bool true)], args := [d] }
  | _ => none }
def fnValidWorldRow : OpenClaim := { program := "ytcipbgkmjhmddaa", sum := "686b5fffa61fe4730786b8229f6c2ca6c3f04569ec48de935b6f2f767820e8bf", func := "loop.example/objectmodel/laws.FnValidWorld", spec := "fnValidWorld", recurses := true, apart := false }
def FnValidWorldSaid : Prop := fnValidWorldRow.holds Try.pinned (OpenSpec.ofChange fnValidWorldSpec)

/-- ITS FALSE NEIGHBOUR: 'it returns false'. Refute it at one input. -/
def fnValidWorldWrong : ChangeSpec := { name := "fnValidWorld", fn := fun _ => fun
  | [d] => { results := [.lit (.bool false)], args := [d] }
  | _ => none }
def FnValidWorldWrongFalsely : Prop := fnValidWorldRow.holds Try.pinned (OpenSpec.ofChange fnValidWorldWrong)

/-- 'laws.FnFindIn': WHATEVER THE INPUT: true; the input reads as it did. -/
def fnFindInSpec : ChangeSpec := { name := "fnFindIn", fn := fun _ => fun
  | [d] => { results := [.lit (.bool true)], args := [d] }
  | _ => none }
def fnFindInRow : OpenClaim := { program := "ytcipbgkmjhmddaa", sum := "686b5fffa61fe4730786b8229f6c2ca6c3f04569ec48de935b6f2f767820e8bf", func := "loop.example/objectmodel/laws.FnFindIn", spec := "fnFindIn", recurses := true, apart := false }
def FnFindInSaid : Prop := fnFindInRow.holds Try.pinned (OpenSpec.ofChange fnFindInSpec)

/-- ITS FALSE NEIGHBOUR: 'it returns false'. Refute it at one input. -/
def fnFindInWrong : ChangeSpec := { name := "fnFindIn", fn := fun _ => fun
  | [d] => { results := [.lit (.bool false)], args := [d] }
  | _ => none }
def FnFindInWrongFalsely : Prop := fnFindInRow.holds Try.pinned (OpenSpec.ofChange fnFindInWrong)

/- THE SECOND FORM. 'bulk': how many values and letters a reading holds, each counted each time it is reached (what is shared counts as often as it is met; a slice's spare places count too). A statement '..UptoSaid' is the law's where the arguments, and the package variables that the reading takes, are together of bulk at most 1048576: NARROWER than '..Said'. Prove '..Said' where nothing that the law and all that it calls make is longer than what came in: it says more and counts as full. Else prove '..UptoSaid'. A law counts once. -/
mutual
def uptoBulk {H : Type} : DataW H → Nat
  | .lit (.string bytes) => bytes.length + 1
  | .lit _ => 1
  | .nil => 1
  | .ptr d => uptoBulk d + 1
  | .slice elems spare => uptoBulkAll elems + uptoBulkAll spare + 1
  | .agg parts => uptoBulkAll parts + 1
  | .iface _ d => uptoBulk d + 1
  | .map entries => uptoBulkEntries entries + 1
  | .held _ => 1
def uptoBulkAll {H : Type} : List (DataW H) → Nat
  | [] => 0
  | d :: r => uptoBulk d + uptoBulkAll r
def uptoBulkEntries {H : Type} : List (Lit × DataW H) → Nat
  | [] => 0
  | x :: r => uptoBulkEntry x + uptoBulkEntries r
def uptoBulkEntry {H : Type} : Lit × DataW H → Nat
  | (.string bytes, d) => bytes.length + uptoBulk d + 1
  | (_, d) => uptoBulk d + 1
 end
def uptoSmall : (H : Type) → List (DataW H) → Bool := fun _ ds => decide (uptoBulkAll ds ≤ 1048576)
def OpenSpec.upto (s : _root_.Go.ChangeSpec) : _root_.Go.OpenSpec := { _root_.Go.OpenSpec.ofChange s with cond := some uptoSmall }

/-- 'laws.FnExactFieldsOf', WHERE WHAT IT READS IS OF BULK AT MOST 1048576: true; the input reads as it did. -/
def fnExactFieldsOfUptoRow : OpenClaim := { program := "ytcipbgkmjhmddaa", sum := "686b5fffa61fe4730786b8229f6c2ca6c3f04569ec48de935b6f2f767820e8bf", func := "loop.example/objectmodel/laws.FnExactFieldsOf", spec := "fnExactFieldsOf", recurses := true, apart := false, narrowed := true }
def FnExactFieldsOfUptoSaid : Prop := fnExactFieldsOfUptoRow.holds Try.pinned (OpenSpec.upto fnExactFieldsOfSpec)

/-- 'laws.FnNextAfter', WHERE WHAT IT READS IS OF BULK AT MOST 1048576: true; the input reads as it did. -/
def fnNextAfterUptoRow : OpenClaim := { program := "ytcipbgkmjhmddaa", sum := "686b5fffa61fe4730786b8229f6c2ca6c3f04569ec48de935b6f2f767820e8bf", func := "loop.example/objectmodel/laws.FnNextAfter", spec := "fnNextAfter", recurses := true, apart := false, narrowed := true }
def FnNextAfterUptoSaid : Prop := fnNextAfterUptoRow.holds Try.pinned (OpenSpec.upto fnNextAfterSpec)

/-- 'laws.FnExactNextAfter', WHERE WHAT IT READS IS OF BULK AT MOST 1048576: true; the input reads as it did. -/
def fnExactNextAfterUptoRow : OpenClaim := { program := "ytcipbgkmjhmddaa", sum := "686b5fffa61fe4730786b8229f6c2ca6c3f04569ec48de935b6f2f767820e8bf", func := "loop.example/objectmodel/laws.FnExactNextAfter", spec := "fnExactNextAfter", recurses := true, apart := false, narrowed := true }
def FnExactNextAfterUptoSaid : Prop := fnExactNextAfterUptoRow.holds Try.pinned (OpenSpec.upto fnExactNextAfterSpec)

/-- 'laws.FnExactValidScript', WHERE WHAT IT READS IS OF BULK AT MOST 1048576: true; the input reads as it did. -/
def fnExactValidScriptUptoRow : OpenClaim := { program := "ytcipbgkmjhmddaa", sum := "686b5fffa61fe4730786b8229f6c2ca6c3f04569ec48de935b6f2f767820e8bf", func := "loop.example/objectmodel/laws.FnExactValidScript", spec := "fnExactValidScript", recurses := true, apart := false, narrowed := true }
def FnExactValidScriptUptoSaid : Prop := fnExactValidScriptUptoRow.holds Try.pinned (OpenSpec.upto fnExactValidScriptSpec)

/-- 'laws.FnExactGetAttr', WHERE WHAT IT READS IS OF BULK AT MOST 1048576: true; the input reads as it did. -/
def fnExactGetAttrUptoRow : OpenClaim := { program := "ytcipbgkmjhmddaa", sum := "686b5fffa61fe4730786b8229f6c2ca6c3f04569ec48de935b6f2f767820e8bf", func := "loop.example/objectmodel/laws.FnExactGetAttr", spec := "fnExactGetAttr", unfollowed := true, recurses := true, apart := false, narrowed := true }
def FnExactGetAttrUptoSaid : Prop := fnExactGetAttrUptoRow.holds Try.pinned (OpenSpec.upto fnExactGetAttrSpec)

/-- 'laws.FnExactGetClassAttr', WHERE WHAT IT READS IS OF BULK AT MOST 1048576: true; the input reads as it did. -/
def fnExactGetClassAttrUptoRow : OpenClaim := { program := "ytcipbgkmjhmddaa", sum := "686b5fffa61fe4730786b8229f6c2ca6c3f04569ec48de935b6f2f767820e8bf", func := "loop.example/objectmodel/laws.FnExactGetClassAttr", spec := "fnExactGetClassAttr", unfollowed := true, recurses := true, apart := false, narrowed := true }
def FnExactGetClassAttrUptoSaid : Prop := fnExactGetClassAttrUptoRow.holds Try.pinned (OpenSpec.upto fnExactGetClassAttrSpec)

/-- 'laws.FnExactSuperAttr', WHERE WHAT IT READS IS OF BULK AT MOST 1048576: true; the input reads as it did. -/
def fnExactSuperAttrUptoRow : OpenClaim := { program := "ytcipbgkmjhmddaa", sum := "686b5fffa61fe4730786b8229f6c2ca6c3f04569ec48de935b6f2f767820e8bf", func := "loop.example/objectmodel/laws.FnExactSuperAttr", spec := "fnExactSuperAttr", unfollowed := true, recurses := true, apart := false, narrowed := true }
def FnExactSuperAttrUptoSaid : Prop := fnExactSuperAttrUptoRow.holds Try.pinned (OpenSpec.upto fnExactSuperAttrSpec)

/-- 'laws.FnExactFindIn', WHERE WHAT IT READS IS OF BULK AT MOST 1048576: true; the input reads as it did. -/
def fnExactFindInUptoRow : OpenClaim := { program := "ytcipbgkmjhmddaa", sum := "686b5fffa61fe4730786b8229f6c2ca6c3f04569ec48de935b6f2f767820e8bf", func := "loop.example/objectmodel/laws.FnExactFindIn", spec := "fnExactFindIn", recurses := true, apart := false, narrowed := true }
def FnExactFindInUptoSaid : Prop := fnExactFindInUptoRow.holds Try.pinned (OpenSpec.upto fnExactFindInSpec)

/-- 'laws.FnExactOwnersOf', WHERE WHAT IT READS IS OF BULK AT MOST 1048576: true; the input reads as it did. -/
def fnExactOwnersOfUptoRow : OpenClaim := { program := "ytcipbgkmjhmddaa", sum := "686b5fffa61fe4730786b8229f6c2ca6c3f04569ec48de935b6f2f767820e8bf", func := "loop.example/objectmodel/laws.FnExactOwnersOf", spec := "fnExactOwnersOf", recurses := true, apart := false, narrowed := true }
def FnExactOwnersOfUptoSaid : Prop := fnExactOwnersOfUptoRow.holds Try.pinned (OpenSpec.upto fnExactOwnersOfSpec)

/-- 'laws.FnValidWorld', WHERE WHAT IT READS IS OF BULK AT MOST 1048576: true; the input reads as it did. -/
def fnValidWorldUptoRow : OpenClaim := { program := "ytcipbgkmjhmddaa", sum := "686b5fffa61fe4730786b8229f6c2ca6c3f04569ec48de935b6f2f767820e8bf", func := "loop.example/objectmodel/laws.FnValidWorld", spec := "fnValidWorld", recurses := true, apart := false, narrowed := true }
def FnValidWorldUptoSaid : Prop := fnValidWorldUptoRow.holds Try.pinned (OpenSpec.upto fnValidWorldSpec)

/-- 'laws.FnFindIn', WHERE WHAT IT READS IS OF BULK AT MOST 1048576: true; the input reads as it did. -/
def fnFindInUptoRow : OpenClaim := { program := "ytcipbgkmjhmddaa", sum := "686b5fffa61fe4730786b8229f6c2ca6c3f04569ec48de935b6f2f767820e8bf", func := "loop.example/objectmodel/laws.FnFindIn", spec := "fnFindIn", recurses := true, apart := false, narrowed := true }
def FnFindInUptoSaid : Prop := fnFindInUptoRow.holds Try.pinned (OpenSpec.upto fnFindInSpec)

end Rows
end Go.Proofs.Ytcipbgkmjhmddaa
