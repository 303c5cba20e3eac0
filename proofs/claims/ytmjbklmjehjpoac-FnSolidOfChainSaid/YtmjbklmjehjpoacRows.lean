/-
  No cell of these rows narrows 'for every input' (looked for: loops, veiled, ifaces, maps, wideKeys, modest, calm, conditions, laid).
  DERIVED. THE GIVEN ROWS OF THIS SEAT. 12 by the template 'for every input the law returns true; each argument reads behind the call as it read before'; 0 by the template 'total and deterministic' (their statements: YtmjbklmjehjpoacTotals.lean).
  GIVEN WITH THE SEED: the statements are not yours to turn. If you find one false, say at which input.
  Laid BY PROGRAM, IN A SANDBOX (cutbox-rows.mjs): the forced cells as the released guide's own fill.sh prints them over the translation b7c82c1c20efb1fd… (all of the seat's roots in one cut). By AI agents, Wed Nov 11 2026. No macro, syntax, notation, axiom, sorry.
-/
import Derived.Test.YtmjbklmjehjpoacChecked
import GoSem.Claim
import GoSem.ClaimJoined
import GoSem.ClaimMapViews
import Derived.JoinedTies
import Derived.KernelRfl
namespace Go.Proofs.Ytmjbklmjehjpoac
/- THE CELL 'sum', in the pinned program and in every row, IS THE sha256 OF THE DUMP (.gsa) THAT YtmjbklmjehjpoacProg.lean LOADS. Nothing in Lean hashes anything: it is a label: what it is worth is what the hold of that sum in a sandbox is worth. -/
noncomputable def Try.pinned : Pinned := { name := "ytmjbklmjehjpoac", sum := "b7c82c1c20efb1fdb3666058b91f23e6c47ee5e7623d347a5e518976ab0e531e", checked := Try.checked }
namespace Rows
def none {H : Type} : Left H := { results := [], args := [] }

/-- 'laws.FnExactSolidOf': WHATEVER THE INPUT: true; the input reads as it did. -/
def fnExactSolidOfSpec : ChangeSpec := { name := "fnExactSolidOf", fn := fun _ => fun
  | [d1, d2, d3] => { results := [.lit (.bool true)], args := [d1, d2, d3] }
  | _ => none }
def fnExactSolidOfRow : OpenClaim := { program := "ytmjbklmjehjpoac", sum := "b7c82c1c20efb1fdb3666058b91f23e6c47ee5e7623d347a5e518976ab0e531e", func := "loop.example/objectmodel/laws.FnExactSolidOf", spec := "fnExactSolidOf", recurses := true, apart := false }
def FnExactSolidOfSaid : Prop := fnExactSolidOfRow.holds Try.pinned (OpenSpec.ofChange fnExactSolidOfSpec)

/-- ITS FALSE NEIGHBOUR: 'it returns false'. Refute it at one input. -/
def fnExactSolidOfWrong : ChangeSpec := { name := "fnExactSolidOf", fn := fun _ => fun
  | [d1, d2, d3] => { results := [.lit (.bool false)], args := [d1, d2, d3] }
  | _ => none }
def FnExactSolidOfWrongFalsely : Prop := fnExactSolidOfRow.holds Try.pinned (OpenSpec.ofChange fnExactSolidOfWrong)

/-- 'laws.FnExactFieldsOf': WHATEVER THE INPUT: true; the input reads as it did. -/
def fnExactFieldsOfSpec : ChangeSpec := { name := "fnExactFieldsOf", fn := fun _ => fun
  | [d1, d2, d3] => { results := [.lit (.bool true)], args := [d1, d2, d3] }
  | _ => none }
def fnExactFieldsOfRow : OpenClaim := { program := "ytmjbklmjehjpoac", sum := "b7c82c1c20efb1fdb3666058b91f23e6c47ee5e7623d347a5e518976ab0e531e", func := "loop.example/objectmodel/laws.FnExactFieldsOf", spec := "fnExactFieldsOf", recurses := true, apart := false }
def FnExactFieldsOfSaid : Prop := fnExactFieldsOfRow.holds Try.pinned (OpenSpec.ofChange fnExactFieldsOfSpec)

/-- ITS FALSE NEIGHBOUR: 'it returns false'. Refute it at one input. -/
def fnExactFieldsOfWrong : ChangeSpec := { name := "fnExactFieldsOf", fn := fun _ => fun
  | [d1, d2, d3] => { results := [.lit (.bool false)], args := [d1, d2, d3] }
  | _ => none }
def FnExactFieldsOfWrongFalsely : Prop := fnExactFieldsOfRow.holds Try.pinned (OpenSpec.ofChange fnExactFieldsOfWrong)

/-- 'laws.FnExactSizeOf': WHATEVER THE INPUT: true; the input reads as it did. -/
def fnExactSizeOfSpec : ChangeSpec := { name := "fnExactSizeOf", fn := fun _ => fun
  | [d1, d2, d3] => { results := [.lit (.bool true)], args := [d1, d2, d3] }
  | _ => none }
def fnExactSizeOfRow : OpenClaim := { program := "ytmjbklmjehjpoac", sum := "b7c82c1c20efb1fdb3666058b91f23e6c47ee5e7623d347a5e518976ab0e531e", func := "loop.example/objectmodel/laws.FnExactSizeOf", spec := "fnExactSizeOf", recurses := true, apart := false }
def FnExactSizeOfSaid : Prop := fnExactSizeOfRow.holds Try.pinned (OpenSpec.ofChange fnExactSizeOfSpec)

/-- ITS FALSE NEIGHBOUR: 'it returns false'. Refute it at one input. -/
def fnExactSizeOfWrong : ChangeSpec := { name := "fnExactSizeOf", fn := fun _ => fun
  | [d1, d2, d3] => { results := [.lit (.bool false)], args := [d1, d2, d3] }
  | _ => none }
def FnExactSizeOfWrongFalsely : Prop := fnExactSizeOfRow.holds Try.pinned (OpenSpec.ofChange fnExactSizeOfWrong)

/-- 'laws.FnExactBestBase': WHATEVER THE INPUT: true; the input reads as it did. -/
def fnExactBestBaseSpec : ChangeSpec := { name := "fnExactBestBase", fn := fun _ => fun
  | [d1, d2, d3] => { results := [.lit (.bool true)], args := [d1, d2, d3] }
  | _ => none }
def fnExactBestBaseRow : OpenClaim := { program := "ytmjbklmjehjpoac", sum := "b7c82c1c20efb1fdb3666058b91f23e6c47ee5e7623d347a5e518976ab0e531e", func := "loop.example/objectmodel/laws.FnExactBestBase", spec := "fnExactBestBase", recurses := true, apart := false }
def FnExactBestBaseSaid : Prop := fnExactBestBaseRow.holds Try.pinned (OpenSpec.ofChange fnExactBestBaseSpec)

/-- ITS FALSE NEIGHBOUR: 'it returns false'. Refute it at one input. -/
def fnExactBestBaseWrong : ChangeSpec := { name := "fnExactBestBase", fn := fun _ => fun
  | [d1, d2, d3] => { results := [.lit (.bool false)], args := [d1, d2, d3] }
  | _ => none }
def FnExactBestBaseWrongFalsely : Prop := fnExactBestBaseRow.holds Try.pinned (OpenSpec.ofChange fnExactBestBaseWrong)

/-- 'laws.FnExactPlaceOf': WHATEVER THE INPUT: true; the input reads as it did. -/
def fnExactPlaceOfSpec : ChangeSpec := { name := "fnExactPlaceOf", fn := fun _ => fun
  | [d1, d2, d3, d4, d5] => { results := [.lit (.bool true)], args := [d1, d2, d3, d4, d5] }
  | _ => none }
def fnExactPlaceOfRow : OpenClaim := { program := "ytmjbklmjehjpoac", sum := "b7c82c1c20efb1fdb3666058b91f23e6c47ee5e7623d347a5e518976ab0e531e", func := "loop.example/objectmodel/laws.FnExactPlaceOf", spec := "fnExactPlaceOf", recurses := true, apart := false }
def FnExactPlaceOfSaid : Prop := fnExactPlaceOfRow.holds Try.pinned (OpenSpec.ofChange fnExactPlaceOfSpec)

/-- ITS FALSE NEIGHBOUR: 'it returns false'. Refute it at one input. -/
def fnExactPlaceOfWrong : ChangeSpec := { name := "fnExactPlaceOf", fn := fun _ => fun
  | [d1, d2, d3, d4, d5] => { results := [.lit (.bool false)], args := [d1, d2, d3, d4, d5] }
  | _ => none }
def FnExactPlaceOfWrongFalsely : Prop := fnExactPlaceOfRow.holds Try.pinned (OpenSpec.ofChange fnExactPlaceOfWrong)

/-- 'laws.FnExactLayoutClash': WHATEVER THE INPUT: true; the input reads as it did. -/
def fnExactLayoutClashSpec : ChangeSpec := { name := "fnExactLayoutClash", fn := fun _ => fun
  | [d1, d2, d3] => { results := [.lit (.bool true)], args := [d1, d2, d3] }
  | _ => none }
def fnExactLayoutClashRow : OpenClaim := { program := "ytmjbklmjehjpoac", sum := "b7c82c1c20efb1fdb3666058b91f23e6c47ee5e7623d347a5e518976ab0e531e", func := "loop.example/objectmodel/laws.FnExactLayoutClash", spec := "fnExactLayoutClash", recurses := true, apart := false }
def FnExactLayoutClashSaid : Prop := fnExactLayoutClashRow.holds Try.pinned (OpenSpec.ofChange fnExactLayoutClashSpec)

/-- ITS FALSE NEIGHBOUR: 'it returns false'. Refute it at one input. -/
def fnExactLayoutClashWrong : ChangeSpec := { name := "fnExactLayoutClash", fn := fun _ => fun
  | [d1, d2, d3] => { results := [.lit (.bool false)], args := [d1, d2, d3] }
  | _ => none }
def FnExactLayoutClashWrongFalsely : Prop := fnExactLayoutClashRow.holds Try.pinned (OpenSpec.ofChange fnExactLayoutClashWrong)

/-- 'laws.FnExactCanBecome': WHATEVER THE INPUT: true; the input reads as it did. -/
def fnExactCanBecomeSpec : ChangeSpec := { name := "fnExactCanBecome", fn := fun _ => fun
  | [d1, d2, d3, d4] => { results := [.lit (.bool true)], args := [d1, d2, d3, d4] }
  | _ => none }
def fnExactCanBecomeRow : OpenClaim := { program := "ytmjbklmjehjpoac", sum := "b7c82c1c20efb1fdb3666058b91f23e6c47ee5e7623d347a5e518976ab0e531e", func := "loop.example/objectmodel/laws.FnExactCanBecome", spec := "fnExactCanBecome", recurses := true, apart := false }
def FnExactCanBecomeSaid : Prop := fnExactCanBecomeRow.holds Try.pinned (OpenSpec.ofChange fnExactCanBecomeSpec)

/-- ITS FALSE NEIGHBOUR: 'it returns false'. Refute it at one input. -/
def fnExactCanBecomeWrong : ChangeSpec := { name := "fnExactCanBecome", fn := fun _ => fun
  | [d1, d2, d3, d4] => { results := [.lit (.bool false)], args := [d1, d2, d3, d4] }
  | _ => none }
def FnExactCanBecomeWrongFalsely : Prop := fnExactCanBecomeRow.holds Try.pinned (OpenSpec.ofChange fnExactCanBecomeWrong)

/-- 'laws.FnExactHiddenFields': WHATEVER THE INPUT: true; the input reads as it did. -/
def fnExactHiddenFieldsSpec : ChangeSpec := { name := "fnExactHiddenFields", fn := fun _ => fun
  | [d1, d2, d3] => { results := [.lit (.bool true)], args := [d1, d2, d3] }
  | _ => none }
def fnExactHiddenFieldsRow : OpenClaim := { program := "ytmjbklmjehjpoac", sum := "b7c82c1c20efb1fdb3666058b91f23e6c47ee5e7623d347a5e518976ab0e531e", func := "loop.example/objectmodel/laws.FnExactHiddenFields", spec := "fnExactHiddenFields", recurses := true, apart := false }
def FnExactHiddenFieldsSaid : Prop := fnExactHiddenFieldsRow.holds Try.pinned (OpenSpec.ofChange fnExactHiddenFieldsSpec)

/-- ITS FALSE NEIGHBOUR: 'it returns false'. Refute it at one input. -/
def fnExactHiddenFieldsWrong : ChangeSpec := { name := "fnExactHiddenFields", fn := fun _ => fun
  | [d1, d2, d3] => { results := [.lit (.bool false)], args := [d1, d2, d3] }
  | _ => none }
def FnExactHiddenFieldsWrongFalsely : Prop := fnExactHiddenFieldsRow.holds Try.pinned (OpenSpec.ofChange fnExactHiddenFieldsWrong)

/-- 'laws.FnSolidOf': WHATEVER THE INPUT: true; the input reads as it did. -/
def fnSolidOfSpec : ChangeSpec := { name := "fnSolidOf", fn := fun _ => fun
  | [d] => { results := [.lit (.bool true)], args := [d] }
  | _ => none }
def fnSolidOfRow : OpenClaim := { program := "ytmjbklmjehjpoac", sum := "b7c82c1c20efb1fdb3666058b91f23e6c47ee5e7623d347a5e518976ab0e531e", func := "loop.example/objectmodel/laws.FnSolidOf", spec := "fnSolidOf", recurses := true, apart := false }
def FnSolidOfSaid : Prop := fnSolidOfRow.holds Try.pinned (OpenSpec.ofChange fnSolidOfSpec)

/-- ITS FALSE NEIGHBOUR: 'it returns false'. Refute it at one input. -/
def fnSolidOfWrong : ChangeSpec := { name := "fnSolidOf", fn := fun _ => fun
  | [d] => { results := [.lit (.bool false)], args := [d] }
  | _ => none }
def FnSolidOfWrongFalsely : Prop := fnSolidOfRow.holds Try.pinned (OpenSpec.ofChange fnSolidOfWrong)

/-- 'laws.FnSolidOfChain': WHATEVER THE INPUT: true; the input reads as it did. -/
def fnSolidOfChainSpec : ChangeSpec := { name := "fnSolidOfChain", fn := fun _ => fun
  | [d] => { results := [.lit (.bool true)], args := [d] }
  | _ => none }
def fnSolidOfChainRow : OpenClaim := { program := "ytmjbklmjehjpoac", sum := "b7c82c1c20efb1fdb3666058b91f23e6c47ee5e7623d347a5e518976ab0e531e", func := "loop.example/objectmodel/laws.FnSolidOfChain", spec := "fnSolidOfChain", recurses := true, apart := false }
def FnSolidOfChainSaid : Prop := fnSolidOfChainRow.holds Try.pinned (OpenSpec.ofChange fnSolidOfChainSpec)

/-- ITS FALSE NEIGHBOUR: 'it returns false'. Refute it at one input. -/
def fnSolidOfChainWrong : ChangeSpec := { name := "fnSolidOfChain", fn := fun _ => fun
  | [d] => { results := [.lit (.bool false)], args := [d] }
  | _ => none }
def FnSolidOfChainWrongFalsely : Prop := fnSolidOfChainRow.holds Try.pinned (OpenSpec.ofChange fnSolidOfChainWrong)

/-- 'laws.FnCanBecome': WHATEVER THE INPUT: true; the input reads as it did. -/
def fnCanBecomeSpec : ChangeSpec := { name := "fnCanBecome", fn := fun _ => fun
  | [d] => { results := [.lit (.bool true)], args := [d] }
  | _ => none }
def fnCanBecomeRow : OpenClaim := { program := "ytmjbklmjehjpoac", sum := "b7c82c1c20efb1fdb3666058b91f23e6c47ee5e7623d347a5e518976ab0e531e", func := "loop.example/objectmodel/laws.FnCanBecome", spec := "fnCanBecome", recurses := true, apart := false }
def FnCanBecomeSaid : Prop := fnCanBecomeRow.holds Try.pinned (OpenSpec.ofChange fnCanBecomeSpec)

/-- ITS FALSE NEIGHBOUR: 'it returns false'. Refute it at one input. -/
def fnCanBecomeWrong : ChangeSpec := { name := "fnCanBecome", fn := fun _ => fun
  | [d] => { results := [.lit (.bool false)], args := [d] }
  | _ => none }
def FnCanBecomeWrongFalsely : Prop := fnCanBecomeRow.holds Try.pinned (OpenSpec.ofChange fnCanBecomeWrong)

/-- 'laws.FnOneChain': WHATEVER THE INPUT: true; the input reads as it did. -/
def fnOneChainSpec : ChangeSpec := { name := "fnOneChain", fn := fun _ => fun
  | [d] => { results := [.lit (.bool true)], args := [d] }
  | _ => none }
def fnOneChainRow : OpenClaim := { program := "ytmjbklmjehjpoac", sum := "b7c82c1c20efb1fdb3666058b91f23e6c47ee5e7623d347a5e518976ab0e531e", func := "loop.example/objectmodel/laws.FnOneChain", spec := "fnOneChain", apart := false }
def FnOneChainSaid : Prop := fnOneChainRow.holds Try.pinned (OpenSpec.ofChange fnOneChainSpec)

/-- ITS FALSE NEIGHBOUR: 'it returns false'. Refute it at one input. -/
def fnOneChainWrong : ChangeSpec := { name := "fnOneChain", fn := fun _ => fun
  | [d] => { results := [.lit (.bool false)], args := [d] }
  | _ => none }
def FnOneChainWrongFalsely : Prop := fnOneChainRow.holds Try.pinned (OpenSpec.ofChange fnOneChainWrong)

/- THE SECOND FORM. 'bulk': how many values and letters a reading holds, each counted each time it is reached (what is shared counts as often as it is met; a slice's spare places count too). A statement '..UptoSaid' is the law's where the arguments, and the package variables that the reading takes, are together of bulk at most 1048576: NARROWER than '..Said'. Prove '..Said' where nothing that the law and all that it calls make is longer than what came in: it says more and counts as full. Else prove '..UptoSaid'. A law counts once. -/
mutual
def uptoBulk {H : Type} : DataW H → Nat
  | .lit (.string bytes) => bytes.length + 1
  | .lit _ => 1
  | .nil => 1
  | .ptr d => uptoBulk d + 1
  | .slice elems spare => uptoBulkAll elems + uptoBulkAll spare + 1
  | .agg parts => uptoBulkAll parts + 1
  | .iface _ d => uptoBulk d + 1
  | .map entries => uptoBulkEntries entries + 1
  | .held _ => 1
def uptoBulkAll {H : Type} : List (DataW H) → Nat
  | [] => 0
  | d :: r => uptoBulk d + uptoBulkAll r
def uptoBulkEntries {H : Type} : List (Lit × DataW H) → Nat
  | [] => 0
  | x :: r => uptoBulkEntry x + uptoBulkEntries r
def uptoBulkEntry {H : Type} : Lit × DataW H → Nat
  | (.string bytes, d) => bytes.length + uptoBulk d + 1
  | (_, d) => uptoBulk d + 1
 end
def uptoSmall : (H : Type) → List (DataW H) → Bool := fun _ ds => decide (uptoBulkAll ds ≤ 1048576)
def OpenSpec.upto (s : _root_.Go.ChangeSpec) : _root_.Go.OpenSpec := { _root_.Go.OpenSpec.ofChange s with cond := some uptoSmall }

/-- 'laws.FnExactSolidOf', WHERE WHAT IT READS IS OF BULK AT MOST 1048576: true; the input reads as it did. -/
def fnExactSolidOfUptoRow : OpenClaim := { program := "ytmjbklmjehjpoac", sum := "b7c82c1c20efb1fdb3666058b91f23e6c47ee5e7623d347a5e518976ab0e531e", func := "loop.example/objectmodel/laws.FnExactSolidOf", spec := "fnExactSolidOf", recurses := true, apart := false, narrowed := true }
def FnExactSolidOfUptoSaid : Prop := fnExactSolidOfUptoRow.holds Try.pinned (OpenSpec.upto fnExactSolidOfSpec)

/-- 'laws.FnExactFieldsOf', WHERE WHAT IT READS IS OF BULK AT MOST 1048576: true; the input reads as it did. -/
def fnExactFieldsOfUptoRow : OpenClaim := { program := "ytmjbklmjehjpoac", sum := "b7c82c1c20efb1fdb3666058b91f23e6c47ee5e7623d347a5e518976ab0e531e", func := "loop.example/objectmodel/laws.FnExactFieldsOf", spec := "fnExactFieldsOf", recurses := true, apart := false, narrowed := true }
def FnExactFieldsOfUptoSaid : Prop := fnExactFieldsOfUptoRow.holds Try.pinned (OpenSpec.upto fnExactFieldsOfSpec)

/-- 'laws.FnExactSizeOf', WHERE WHAT IT READS IS OF BULK AT MOST 1048576: true; the input reads as it did. -/
def fnExactSizeOfUptoRow : OpenClaim := { program := "ytmjbklmjehjpoac", sum := "b7c82c1c20efb1fdb3666058b91f23e6c47ee5e7623d347a5e518976ab0e531e", func := "loop.example/objectmodel/laws.FnExactSizeOf", spec := "fnExactSizeOf", recurses := true, apart := false, narrowed := true }
def FnExactSizeOfUptoSaid : Prop := fnExactSizeOfUptoRow.holds Try.pinned (OpenSpec.upto fnExactSizeOfSpec)

/-- 'laws.FnExactBestBase', WHERE WHAT IT READS IS OF BULK AT MOST 1048576: true; the input reads as it did. -/
def fnExactBestBaseUptoRow : OpenClaim := { program := "ytmjbklmjehjpoac", sum := "b7c82c1c20efb1fdb3666058b91f23e6c47ee5e7623d347a5e518976ab0e531e", func := "loop.example/objectmodel/laws.FnExactBestBase", spec := "fnExactBestBase", recurses := true, apart := false, narrowed := true }
def FnExactBestBaseUptoSaid : Prop := fnExactBestBaseUptoRow.holds Try.pinned (OpenSpec.upto fnExactBestBaseSpec)

/-- 'laws.FnExactPlaceOf', WHERE WHAT IT READS IS OF BULK AT MOST 1048576: true; the input reads as it did. -/
def fnExactPlaceOfUptoRow : OpenClaim := { program := "ytmjbklmjehjpoac", sum := "b7c82c1c20efb1fdb3666058b91f23e6c47ee5e7623d347a5e518976ab0e531e", func := "loop.example/objectmodel/laws.FnExactPlaceOf", spec := "fnExactPlaceOf", recurses := true, apart := false, narrowed := true }
def FnExactPlaceOfUptoSaid : Prop := fnExactPlaceOfUptoRow.holds Try.pinned (OpenSpec.upto fnExactPlaceOfSpec)

/-- 'laws.FnExactLayoutClash', WHERE WHAT IT READS IS OF BULK AT MOST 1048576: true; the input reads as it did. -/
def fnExactLayoutClashUptoRow : OpenClaim := { program := "ytmjbklmjehjpoac", sum := "b7c82c1c20efb1fdb3666058b91f23e6c47ee5e7623d347a5e518976ab0e531e", func := "loop.example/objectmodel/laws.FnExactLayoutClash", spec := "fnExactLayoutClash", recurses := true, apart := false, narrowed := true }
def FnExactLayoutClashUptoSaid : Prop := fnExactLayoutClashUptoRow.holds Try.pinned (OpenSpec.upto fnExactLayoutClashSpec)

/-- 'laws.FnExactCanBecome', WHERE WHAT IT READS IS OF BULK AT MOST 1048576: true; the input reads as it did. -/
def fnExactCanBecomeUptoRow : OpenClaim := { program := "ytmjbklmjehjpoac", sum := "b7c82c1c20efb1fdb3666058b91f23e6c47ee5e7623d347a5e518976ab0e531e", func := "loop.example/objectmodel/laws.FnExactCanBecome", spec := "fnExactCanBecome", recurses := true, apart := false, narrowed := true }
def FnExactCanBecomeUptoSaid : Prop := fnExactCanBecomeUptoRow.holds Try.pinned (OpenSpec.upto fnExactCanBecomeSpec)

/-- 'laws.FnExactHiddenFields', WHERE WHAT IT READS IS OF BULK AT MOST 1048576: true; the input reads as it did. -/
def fnExactHiddenFieldsUptoRow : OpenClaim := { program := "ytmjbklmjehjpoac", sum := "b7c82c1c20efb1fdb3666058b91f23e6c47ee5e7623d347a5e518976ab0e531e", func := "loop.example/objectmodel/laws.FnExactHiddenFields", spec := "fnExactHiddenFields", recurses := true, apart := false, narrowed := true }
def FnExactHiddenFieldsUptoSaid : Prop := fnExactHiddenFieldsUptoRow.holds Try.pinned (OpenSpec.upto fnExactHiddenFieldsSpec)

/-- 'laws.FnSolidOf', WHERE WHAT IT READS IS OF BULK AT MOST 1048576: true; the input reads as it did. -/
def fnSolidOfUptoRow : OpenClaim := { program := "ytmjbklmjehjpoac", sum := "b7c82c1c20efb1fdb3666058b91f23e6c47ee5e7623d347a5e518976ab0e531e", func := "loop.example/objectmodel/laws.FnSolidOf", spec := "fnSolidOf", recurses := true, apart := false, narrowed := true }
def FnSolidOfUptoSaid : Prop := fnSolidOfUptoRow.holds Try.pinned (OpenSpec.upto fnSolidOfSpec)

/-- 'laws.FnSolidOfChain', WHERE WHAT IT READS IS OF BULK AT MOST 1048576: true; the input reads as it did. -/
def fnSolidOfChainUptoRow : OpenClaim := { program := "ytmjbklmjehjpoac", sum := "b7c82c1c20efb1fdb3666058b91f23e6c47ee5e7623d347a5e518976ab0e531e", func := "loop.example/objectmodel/laws.FnSolidOfChain", spec := "fnSolidOfChain", recurses := true, apart := false, narrowed := true }
def FnSolidOfChainUptoSaid : Prop := fnSolidOfChainUptoRow.holds Try.pinned (OpenSpec.upto fnSolidOfChainSpec)

/-- 'laws.FnCanBecome', WHERE WHAT IT READS IS OF BULK AT MOST 1048576: true; the input reads as it did. -/
def fnCanBecomeUptoRow : OpenClaim := { program := "ytmjbklmjehjpoac", sum := "b7c82c1c20efb1fdb3666058b91f23e6c47ee5e7623d347a5e518976ab0e531e", func := "loop.example/objectmodel/laws.FnCanBecome", spec := "fnCanBecome", recurses := true, apart := false, narrowed := true }
def FnCanBecomeUptoSaid : Prop := fnCanBecomeUptoRow.holds Try.pinned (OpenSpec.upto fnCanBecomeSpec)

/-- 'laws.FnOneChain', WHERE WHAT IT READS IS OF BULK AT MOST 1048576: true; the input reads as it did. -/
def fnOneChainUptoRow : OpenClaim := { program := "ytmjbklmjehjpoac", sum := "b7c82c1c20efb1fdb3666058b91f23e6c47ee5e7623d347a5e518976ab0e531e", func := "loop.example/objectmodel/laws.FnOneChain", spec := "fnOneChain", apart := false, narrowed := true }
def FnOneChainUptoSaid : Prop := fnOneChainUptoRow.holds Try.pinned (OpenSpec.upto fnOneChainSpec)

end Rows
end Go.Proofs.Ytmjbklmjehjpoac
