/-
  No cell of these rows narrows 'for every input' (looked for: loops, veiled, ifaces, maps, wideKeys, modest, calm, conditions, laid).
  DERIVED. THE GIVEN ROWS OF THIS SEAT. 10 by the template 'for every input the law returns true; each argument reads behind the call as it read before'; 0 by the template 'total and deterministic' (their statements: YtdkgldahahggfaaTotals.lean).
  GIVEN WITH THE SEED: the statements are not yours to turn. If you find one false, say at which input.
  Laid BY PROGRAM, IN A SANDBOX (cutbox-rows.mjs): the forced cells as the released guide's own fill.sh prints them over the translation 3ccf3691c8553209… (all of the seat's roots in one cut). By AI agents, Wed Nov 11 2026. No macro, syntax, notation, axiom, sorry.
-/
import Derived.Test.YtdkgldahahggfaaChecked
import GoSem.Claim
import GoSem.ClaimJoined
import GoSem.ClaimMapViews
import Derived.JoinedTies
import Derived.KernelRfl
namespace Go.Proofs.Ytdkgldahahggfaa
/- THE CELL 'sum', in the pinned program and in every row, IS THE sha256 OF THE DUMP (.gsa) THAT YtdkgldahahggfaaProg.lean LOADS. Nothing in Lean hashes anything: it is a label: what it is worth is what the hold of that sum in a sandbox is worth. -/
noncomputable def Try.pinned : Pinned := { name := "ytdkgldahahggfaa", sum := "3ccf3691c85532095ebe5e5521e729f28938c5479799cc2ad76d08a84c7449cb", checked := Try.checked }
namespace Rows
def none {H : Type} : Left H := { results := [], args := [] }

/-- 'laws.FnFindInBase': WHATEVER THE INPUT: true; the input reads as it did. -/
def fnFindInBaseSpec : ChangeSpec := { name := "fnFindInBase", fn := fun _ => fun
  | [d] => { results := [.lit (.bool true)], args := [d] }
  | _ => none }
def fnFindInBaseRow : OpenClaim := { program := "ytdkgldahahggfaa", sum := "3ccf3691c85532095ebe5e5521e729f28938c5479799cc2ad76d08a84c7449cb", func := "loop.example/objectmodel/laws.FnFindInBase", spec := "fnFindInBase", recurses := true, apart := false }
def FnFindInBaseSaid : Prop := fnFindInBaseRow.holds Try.pinned (OpenSpec.ofChange fnFindInBaseSpec)

/-- ITS FALSE NEIGHBOUR: 'it returns false'. Refute it at one input. -/
def fnFindInBaseWrong : ChangeSpec := { name := "fnFindInBase", fn := fun _ => fun
  | [d] => { results := [.lit (.bool false)], args := [d] }
  | _ => none }
def FnFindInBaseWrongFalsely : Prop := fnFindInBaseRow.holds Try.pinned (OpenSpec.ofChange fnFindInBaseWrong)

/-- 'laws.FnGetAttr': WHATEVER THE INPUT: true; the input reads as it did. -/
def fnGetAttrSpec : ChangeSpec := { name := "fnGetAttr", fn := fun _ => fun
  | [d] => { results := [.lit (.bool true)], args := [d] }
  | _ => none }
def fnGetAttrRow : OpenClaim := { program := "ytdkgldahahggfaa", sum := "3ccf3691c85532095ebe5e5521e729f28938c5479799cc2ad76d08a84c7449cb", func := "loop.example/objectmodel/laws.FnGetAttr", spec := "fnGetAttr", unfollowed := true, recurses := true, apart := false }
def FnGetAttrSaid : Prop := fnGetAttrRow.holds Try.pinned (OpenSpec.ofChange fnGetAttrSpec)

/-- ITS FALSE NEIGHBOUR: 'it returns false'. Refute it at one input. -/
def fnGetAttrWrong : ChangeSpec := { name := "fnGetAttr", fn := fun _ => fun
  | [d] => { results := [.lit (.bool false)], args := [d] }
  | _ => none }
def FnGetAttrWrongFalsely : Prop := fnGetAttrRow.holds Try.pinned (OpenSpec.ofChange fnGetAttrWrong)

/-- 'laws.FnGetAttrClass': WHATEVER THE INPUT: true; the input reads as it did. -/
def fnGetAttrClassSpec : ChangeSpec := { name := "fnGetAttrClass", fn := fun _ => fun
  | [d] => { results := [.lit (.bool true)], args := [d] }
  | _ => none }
def fnGetAttrClassRow : OpenClaim := { program := "ytdkgldahahggfaa", sum := "3ccf3691c85532095ebe5e5521e729f28938c5479799cc2ad76d08a84c7449cb", func := "loop.example/objectmodel/laws.FnGetAttrClass", spec := "fnGetAttrClass", unfollowed := true, recurses := true, apart := false }
def FnGetAttrClassSaid : Prop := fnGetAttrClassRow.holds Try.pinned (OpenSpec.ofChange fnGetAttrClassSpec)

/-- ITS FALSE NEIGHBOUR: 'it returns false'. Refute it at one input. -/
def fnGetAttrClassWrong : ChangeSpec := { name := "fnGetAttrClass", fn := fun _ => fun
  | [d] => { results := [.lit (.bool false)], args := [d] }
  | _ => none }
def FnGetAttrClassWrongFalsely : Prop := fnGetAttrClassRow.holds Try.pinned (OpenSpec.ofChange fnGetAttrClassWrong)

/-- 'laws.FnGetClassAttr': WHATEVER THE INPUT: true; the input reads as it did. -/
def fnGetClassAttrSpec : ChangeSpec := { name := "fnGetClassAttr", fn := fun _ => fun
  | [d] => { results := [.lit (.bool true)], args := [d] }
  | _ => none }
def fnGetClassAttrRow : OpenClaim := { program := "ytdkgldahahggfaa", sum := "3ccf3691c85532095ebe5e5521e729f28938c5479799cc2ad76d08a84c7449cb", func := "loop.example/objectmodel/laws.FnGetClassAttr", spec := "fnGetClassAttr", unfollowed := true, recurses := true, apart := false }
def FnGetClassAttrSaid : Prop := fnGetClassAttrRow.holds Try.pinned (OpenSpec.ofChange fnGetClassAttrSpec)

/-- ITS FALSE NEIGHBOUR: 'it returns false'. Refute it at one input. -/
def fnGetClassAttrWrong : ChangeSpec := { name := "fnGetClassAttr", fn := fun _ => fun
  | [d] => { results := [.lit (.bool false)], args := [d] }
  | _ => none }
def FnGetClassAttrWrongFalsely : Prop := fnGetClassAttrRow.holds Try.pinned (OpenSpec.ofChange fnGetClassAttrWrong)

/-- 'laws.FnOwnersOf': WHATEVER THE INPUT: true; the input reads as it did. -/
def fnOwnersOfSpec : ChangeSpec := { name := "fnOwnersOf", fn := fun _ => fun
  | [d] => { results := [.lit (.bool true)], args := [d] }
  | _ => none }
def fnOwnersOfRow : OpenClaim := { program := "ytdkgldahahggfaa", sum := "3ccf3691c85532095ebe5e5521e729f28938c5479799cc2ad76d08a84c7449cb", func := "loop.example/objectmodel/laws.FnOwnersOf", spec := "fnOwnersOf", recurses := true, apart := false }
def FnOwnersOfSaid : Prop := fnOwnersOfRow.holds Try.pinned (OpenSpec.ofChange fnOwnersOfSpec)

/-- ITS FALSE NEIGHBOUR: 'it returns false'. Refute it at one input. -/
def fnOwnersOfWrong : ChangeSpec := { name := "fnOwnersOf", fn := fun _ => fun
  | [d] => { results := [.lit (.bool false)], args := [d] }
  | _ => none }
def FnOwnersOfWrongFalsely : Prop := fnOwnersOfRow.holds Try.pinned (OpenSpec.ofChange fnOwnersOfWrong)

/-- 'laws.FnNamesOf': WHATEVER THE INPUT: true; the input reads as it did. -/
def fnNamesOfSpec : ChangeSpec := { name := "fnNamesOf", fn := fun _ => fun
  | [d] => { results := [.lit (.bool true)], args := [d] }
  | _ => none }
def fnNamesOfRow : OpenClaim := { program := "ytdkgldahahggfaa", sum := "3ccf3691c85532095ebe5e5521e729f28938c5479799cc2ad76d08a84c7449cb", func := "loop.example/objectmodel/laws.FnNamesOf", spec := "fnNamesOf", unfollowed := true, recurses := true, apart := false }
def FnNamesOfSaid : Prop := fnNamesOfRow.holds Try.pinned (OpenSpec.ofChange fnNamesOfSpec)

/-- ITS FALSE NEIGHBOUR: 'it returns false'. Refute it at one input. -/
def fnNamesOfWrong : ChangeSpec := { name := "fnNamesOf", fn := fun _ => fun
  | [d] => { results := [.lit (.bool false)], args := [d] }
  | _ => none }
def FnNamesOfWrongFalsely : Prop := fnNamesOfRow.holds Try.pinned (OpenSpec.ofChange fnNamesOfWrong)

/-- 'laws.FnSuperAttr': WHATEVER THE INPUT: true; the input reads as it did. -/
def fnSuperAttrSpec : ChangeSpec := { name := "fnSuperAttr", fn := fun _ => fun
  | [d] => { results := [.lit (.bool true)], args := [d] }
  | _ => none }
def fnSuperAttrRow : OpenClaim := { program := "ytdkgldahahggfaa", sum := "3ccf3691c85532095ebe5e5521e729f28938c5479799cc2ad76d08a84c7449cb", func := "loop.example/objectmodel/laws.FnSuperAttr", spec := "fnSuperAttr", unfollowed := true, recurses := true, apart := false }
def FnSuperAttrSaid : Prop := fnSuperAttrRow.holds Try.pinned (OpenSpec.ofChange fnSuperAttrSpec)

/-- ITS FALSE NEIGHBOUR: 'it returns false'. Refute it at one input. -/
def fnSuperAttrWrong : ChangeSpec := { name := "fnSuperAttr", fn := fun _ => fun
  | [d] => { results := [.lit (.bool false)], args := [d] }
  | _ => none }
def FnSuperAttrWrongFalsely : Prop := fnSuperAttrRow.holds Try.pinned (OpenSpec.ofChange fnSuperAttrWrong)

/-- 'laws.FnSuperAttrFirst': WHATEVER THE INPUT: true; the input reads as it did. -/
def fnSuperAttrFirstSpec : ChangeSpec := { name := "fnSuperAttrFirst", fn := fun _ => fun
  | [d] => { results := [.lit (.bool true)], args := [d] }
  | _ => none }
def fnSuperAttrFirstRow : OpenClaim := { program := "ytdkgldahahggfaa", sum := "3ccf3691c85532095ebe5e5521e729f28938c5479799cc2ad76d08a84c7449cb", func := "loop.example/objectmodel/laws.FnSuperAttrFirst", spec := "fnSuperAttrFirst", unfollowed := true, recurses := true, apart := false }
def FnSuperAttrFirstSaid : Prop := fnSuperAttrFirstRow.holds Try.pinned (OpenSpec.ofChange fnSuperAttrFirstSpec)

/-- ITS FALSE NEIGHBOUR: 'it returns false'. Refute it at one input. -/
def fnSuperAttrFirstWrong : ChangeSpec := { name := "fnSuperAttrFirst", fn := fun _ => fun
  | [d] => { results := [.lit (.bool false)], args := [d] }
  | _ => none }
def FnSuperAttrFirstWrongFalsely : Prop := fnSuperAttrFirstRow.holds Try.pinned (OpenSpec.ofChange fnSuperAttrFirstWrong)

/-- 'laws.FnExactSetClassAttr': WHATEVER THE INPUT: true; the input reads as it did. -/
def fnExactSetClassAttrSpec : ChangeSpec := { name := "fnExactSetClassAttr", fn := fun _ => fun
  | [d1, d2, d3] => { results := [.lit (.bool true)], args := [d1, d2, d3] }
  | _ => none }
def fnExactSetClassAttrRow : OpenClaim := { program := "ytdkgldahahggfaa", sum := "3ccf3691c85532095ebe5e5521e729f28938c5479799cc2ad76d08a84c7449cb", func := "loop.example/objectmodel/laws.FnExactSetClassAttr", spec := "fnExactSetClassAttr", recurses := true, apart := false }
def FnExactSetClassAttrSaid : Prop := fnExactSetClassAttrRow.holds Try.pinned (OpenSpec.ofChange fnExactSetClassAttrSpec)

/-- ITS FALSE NEIGHBOUR: 'it returns false'. Refute it at one input. -/
def fnExactSetClassAttrWrong : ChangeSpec := { name := "fnExactSetClassAttr", fn := fun _ => fun
  | [d1, d2, d3] => { results := [.lit (.bool false)], args := [d1, d2, d3] }
  | _ => none }
def FnExactSetClassAttrWrongFalsely : Prop := fnExactSetClassAttrRow.holds Try.pinned (OpenSpec.ofChange fnExactSetClassAttrWrong)

/-- 'laws.FnExactDelClassAttr': WHATEVER THE INPUT: true; the input reads as it did. -/
def fnExactDelClassAttrSpec : ChangeSpec := { name := "fnExactDelClassAttr", fn := fun _ => fun
  | [d1, d2, d3] => { results := [.lit (.bool true)], args := [d1, d2, d3] }
  | _ => none }
def fnExactDelClassAttrRow : OpenClaim := { program := "ytdkgldahahggfaa", sum := "3ccf3691c85532095ebe5e5521e729f28938c5479799cc2ad76d08a84c7449cb", func := "loop.example/objectmodel/laws.FnExactDelClassAttr", spec := "fnExactDelClassAttr", recurses := true, apart := false }
def FnExactDelClassAttrSaid : Prop := fnExactDelClassAttrRow.holds Try.pinned (OpenSpec.ofChange fnExactDelClassAttrSpec)

/-- ITS FALSE NEIGHBOUR: 'it returns false'. Refute it at one input. -/
def fnExactDelClassAttrWrong : ChangeSpec := { name := "fnExactDelClassAttr", fn := fun _ => fun
  | [d1, d2, d3] => { results := [.lit (.bool false)], args := [d1, d2, d3] }
  | _ => none }
def FnExactDelClassAttrWrongFalsely : Prop := fnExactDelClassAttrRow.holds Try.pinned (OpenSpec.ofChange fnExactDelClassAttrWrong)

/- THE SECOND FORM. 'bulk': how many values and letters a reading holds, each counted each time it is reached (what is shared counts as often as it is met; a slice's spare places count too). A statement '..UptoSaid' is the law's where the arguments, and the package variables that the reading takes, are together of bulk at most 1048576: NARROWER than '..Said'. Prove '..Said' where nothing that the law and all that it calls make is longer than what came in: it says more and counts as full. Else prove '..UptoSaid'. A law counts once. -/
mutual
def uptoBulk {H : Type} : DataW H → Nat
  | .lit (.string bytes) => bytes.length + 1
  | .lit _ => 1
  | .nil => 1
  | .ptr d => uptoBulk d + 1
  | .slice elems spare => uptoBulkAll elems + uptoBulkAll spare + 1
  | .agg parts => uptoBulkAll parts + 1
  | .iface _ d => uptoBulk d + 1
  | .map entries => uptoBulkEntries entries + 1
  | .held _ => 1
def uptoBulkAll {H : Type} : List (DataW H) → Nat
  | [] => 0
  | d :: r => uptoBulk d + uptoBulkAll r
def uptoBulkEntries {H : Type} : List (Lit × DataW H) → Nat
  | [] => 0
  | x :: r => uptoBulkEntry x + uptoBulkEntries r
def uptoBulkEntry {H : Type} : Lit × DataW H → Nat
  | (.string bytes, d) => bytes.length + uptoBulk d + 1
  | (_, d) => uptoBulk d + 1
 end
def uptoSmall : (H : Type) → List (DataW H) → Bool := fun _ ds => decide (uptoBulkAll ds ≤ 1048576)
def OpenSpec.upto (s : _root_.Go.ChangeSpec) : _root_.Go.OpenSpec := { _root_.Go.OpenSpec.ofChange s with cond := some uptoSmall }

/-- 'laws.FnFindInBase', WHERE WHAT IT READS IS OF BULK AT MOST 1048576: true; the input reads as it did. -/
def fnFindInBaseUptoRow : OpenClaim := { program := "ytdkgldahahggfaa", sum := "3ccf3691c85532095ebe5e5521e729f28938c5479799cc2ad76d08a84c7449cb", func := "loop.example/objectmodel/laws.FnFindInBase", spec := "fnFindInBase", recurses := true, apart := false, narrowed := true }
def FnFindInBaseUptoSaid : Prop := fnFindInBaseUptoRow.holds Try.pinned (OpenSpec.upto fnFindInBaseSpec)

/-- 'laws.FnGetAttr', WHERE WHAT IT READS IS OF BULK AT MOST 1048576: true; the input reads as it did. -/
def fnGetAttrUptoRow : OpenClaim := { program := "ytdkgldahahggfaa", sum := "3ccf3691c85532095ebe5e5521e729f28938c5479799cc2ad76d08a84c7449cb", func := "loop.example/objectmodel/laws.FnGetAttr", spec := "fnGetAttr", unfollowed := true, recurses := true, apart := false, narrowed := true }
def FnGetAttrUptoSaid : Prop := fnGetAttrUptoRow.holds Try.pinned (OpenSpec.upto fnGetAttrSpec)

/-- 'laws.FnGetAttrClass', WHERE WHAT IT READS IS OF BULK AT MOST 1048576: true; the input reads as it did. -/
def fnGetAttrClassUptoRow : OpenClaim := { program := "ytdkgldahahggfaa", sum := "3ccf3691c85532095ebe5e5521e729f28938c5479799cc2ad76d08a84c7449cb", func := "loop.example/objectmodel/laws.FnGetAttrClass", spec := "fnGetAttrClass", unfollowed := true, recurses := true, apart := false, narrowed := true }
def FnGetAttrClassUptoSaid : Prop := fnGetAttrClassUptoRow.holds Try.pinned (OpenSpec.upto fnGetAttrClassSpec)

/-- 'laws.FnGetClassAttr', WHERE WHAT IT READS IS OF BULK AT MOST 1048576: true; the input reads as it did. -/
def fnGetClassAttrUptoRow : OpenClaim := { program := "ytdkgldahahggfaa", sum := "3ccf3691c85532095ebe5e5521e729f28938c5479799cc2ad76d08a84c7449cb", func := "loop.example/objectmodel/laws.FnGetClassAttr", spec := "fnGetClassAttr", unfollowed := true, recurses := true, apart := false, narrowed := true }
def FnGetClassAttrUptoSaid : Prop := fnGetClassAttrUptoRow.holds Try.pinned (OpenSpec.upto fnGetClassAttrSpec)

/-- 'laws.FnOwnersOf', WHERE WHAT IT READS IS OF BULK AT MOST 1048576: true; the input reads as it did. -/
def fnOwnersOfUptoRow : OpenClaim := { program := "ytdkgldahahggfaa", sum := "3ccf3691c85532095ebe5e5521e729f28938c5479799cc2ad76d08a84c7449cb", func := "loop.example/objectmodel/laws.FnOwnersOf", spec := "fnOwnersOf", recurses := true, apart := false, narrowed := true }
def FnOwnersOfUptoSaid : Prop := fnOwnersOfUptoRow.holds Try.pinned (OpenSpec.upto fnOwnersOfSpec)

/-- 'laws.FnNamesOf', WHERE WHAT IT READS IS OF BULK AT MOST 1048576: true; the input reads as it did. -/
def fnNamesOfUptoRow : OpenClaim := { program := "ytdkgldahahggfaa", sum := "3ccf3691c85532095ebe5e5521e729f28938c5479799cc2ad76d08a84c7449cb", func := "loop.example/objectmodel/laws.FnNamesOf", spec := "fnNamesOf", unfollowed := true, recurses := true, apart := false, narrowed := true }
def FnNamesOfUptoSaid : Prop := fnNamesOfUptoRow.holds Try.pinned (OpenSpec.upto fnNamesOfSpec)

/-- 'laws.FnSuperAttr', WHERE WHAT IT READS IS OF BULK AT MOST 1048576: true; the input reads as it did. -/
def fnSuperAttrUptoRow : OpenClaim := { program := "ytdkgldahahggfaa", sum := "3ccf3691c85532095ebe5e5521e729f28938c5479799cc2ad76d08a84c7449cb", func := "loop.example/objectmodel/laws.FnSuperAttr", spec := "fnSuperAttr", unfollowed := true, recurses := true, apart := false, narrowed := true }
def FnSuperAttrUptoSaid : Prop := fnSuperAttrUptoRow.holds Try.pinned (OpenSpec.upto fnSuperAttrSpec)

/-- 'laws.FnSuperAttrFirst', WHERE WHAT IT READS IS OF BULK AT MOST 1048576: true; the input reads as it did. -/
def fnSuperAttrFirstUptoRow : OpenClaim := { program := "ytdkgldahahggfaa", sum := "3ccf3691c85532095ebe5e5521e729f28938c5479799cc2ad76d08a84c7449cb", func := "loop.example/objectmodel/laws.FnSuperAttrFirst", spec := "fnSuperAttrFirst", unfollowed := true, recurses := true, apart := false, narrowed := true }
def FnSuperAttrFirstUptoSaid : Prop := fnSuperAttrFirstUptoRow.holds Try.pinned (OpenSpec.upto fnSuperAttrFirstSpec)

/-- 'laws.FnExactSetClassAttr', WHERE WHAT IT READS IS OF BULK AT MOST 1048576: true; the input reads as it did. -/
def fnExactSetClassAttrUptoRow : OpenClaim := { program := "ytdkgldahahggfaa", sum := "3ccf3691c85532095ebe5e5521e729f28938c5479799cc2ad76d08a84c7449cb", func := "loop.example/objectmodel/laws.FnExactSetClassAttr", spec := "fnExactSetClassAttr", recurses := true, apart := false, narrowed := true }
def FnExactSetClassAttrUptoSaid : Prop := fnExactSetClassAttrUptoRow.holds Try.pinned (OpenSpec.upto fnExactSetClassAttrSpec)

/-- 'laws.FnExactDelClassAttr', WHERE WHAT IT READS IS OF BULK AT MOST 1048576: true; the input reads as it did. -/
def fnExactDelClassAttrUptoRow : OpenClaim := { program := "ytdkgldahahggfaa", sum := "3ccf3691c85532095ebe5e5521e729f28938c5479799cc2ad76d08a84c7449cb", func := "loop.example/objectmodel/laws.FnExactDelClassAttr", spec := "fnExactDelClassAttr", recurses := true, apart := false, narrowed := true }
def FnExactDelClassAttrUptoSaid : Prop := fnExactDelClassAttrUptoRow.holds Try.pinned (OpenSpec.upto fnExactDelClassAttrSpec)

end Rows
end Go.Proofs.Ytdkgldahahggfaa
