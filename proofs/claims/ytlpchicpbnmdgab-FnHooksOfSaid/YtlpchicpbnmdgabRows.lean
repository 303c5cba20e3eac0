/-
  No cell of these rows narrows 'for every input' (looked for: loops, veiled, ifaces, maps, wideKeys, modest, calm, conditions, laid).
  DERIVED. THE GIVEN ROWS OF THIS SEAT. 5 by the template 'for every input the law returns true; each argument reads behind the call as it read before'; 0 by the template 'total and deterministic' (their statements: YtlpchicpbnmdgabTotals.lean).
  GIVEN WITH THE SEED: the statements are not yours to turn. If you find one false, say at which input.
  Laid BY PROGRAM, IN A SANDBOX (cutbox-rows.mjs): the forced cells as the released guide's own fill.sh prints them over the translation 389f3dea6661d294… (all of the seat's roots in one cut). By AI agents, Wed Nov 11 2026. No macro, syntax, notation, axiom, sorry.
-/
import Derived.Test.YtlpchicpbnmdgabChecked
import GoSem.Claim
import GoSem.ClaimJoined
import GoSem.ClaimMapViews
import Derived.JoinedTies
import Derived.KernelRfl
namespace Go.Proofs.Ytlpchicpbnmdgab
/- THE CELL 'sum', in the pinned program and in every row, IS THE sha256 OF THE DUMP (.gsa) THAT YtlpchicpbnmdgabProg.lean LOADS. Nothing in Lean hashes anything: it is a label: what it is worth is what the hold of that sum in a sandbox is worth. -/
noncomputable def Try.pinned : Pinned := { name := "ytlpchicpbnmdgab", sum := "389f3dea6661d294e3279bccc5fdaf8a72d94d2d3de6211cb29b3bef2f6e6257", checked := Try.checked }
namespace Rows
def none {H : Type} : Left H := { results := [], args := [] }

/-- 'laws.FnExactSetClassAttr': WHATEVER THE INPUT: true; the input reads as it did. -/
def fnExactSetClassAttrSpec : ChangeSpec := { name := "fnExactSetClassAttr", fn := fun _ => fun
  | [d1, d2, d3] => { results := [.lit (.bool true)], args := [d1, d2, d3] }
  | _ => none }
def fnExactSetClassAttrRow : OpenClaim := { program := "ytlpchicpbnmdgab", sum := "389f3dea6661d294e3279bccc5fdaf8a72d94d2d3de6211cb29b3bef2f6e6257", func := "loop.example/objectmodel/laws.FnExactSetClassAttr", spec := "fnExactSetClassAttr", recurses := true, apart := false }
def FnExactSetClassAttrSaid : Prop := fnExactSetClassAttrRow.holds Try.pinned (OpenSpec.ofChange fnExactSetClassAttrSpec)

/-- ITS FALSE NEIGHBOUR: 'it returns false'. Refute it at one input. -/
def fnExactSetClassAttrWrong : ChangeSpec := { name := "fnExactSetClassAttr", fn := fun _ => fun
  | [d1, d2, d3] => { results := [.lit (.bool false)], args := [d1, d2, d3] }
  | _ => none }
def FnExactSetClassAttrWrongFalsely : Prop := fnExactSetClassAttrRow.holds Try.pinned (OpenSpec.ofChange fnExactSetClassAttrWrong)

/-- 'laws.FnExactDelClassAttr': WHATEVER THE INPUT: true; the input reads as it did. -/
def fnExactDelClassAttrSpec : ChangeSpec := { name := "fnExactDelClassAttr", fn := fun _ => fun
  | [d1, d2, d3] => { results := [.lit (.bool true)], args := [d1, d2, d3] }
  | _ => none }
def fnExactDelClassAttrRow : OpenClaim := { program := "ytlpchicpbnmdgab", sum := "389f3dea6661d294e3279bccc5fdaf8a72d94d2d3de6211cb29b3bef2f6e6257", func := "loop.example/objectmodel/laws.FnExactDelClassAttr", spec := "fnExactDelClassAttr", recurses := true, apart := false }
def FnExactDelClassAttrSaid : Prop := fnExactDelClassAttrRow.holds Try.pinned (OpenSpec.ofChange fnExactDelClassAttrSpec)

/-- ITS FALSE NEIGHBOUR: 'it returns false'. Refute it at one input. -/
def fnExactDelClassAttrWrong : ChangeSpec := { name := "fnExactDelClassAttr", fn := fun _ => fun
  | [d1, d2, d3] => { results := [.lit (.bool false)], args := [d1, d2, d3] }
  | _ => none }
def FnExactDelClassAttrWrongFalsely : Prop := fnExactDelClassAttrRow.holds Try.pinned (OpenSpec.ofChange fnExactDelClassAttrWrong)

/-- 'laws.FnSetClassAttr': WHATEVER THE INPUT: true; the input reads as it did. -/
def fnSetClassAttrSpec : ChangeSpec := { name := "fnSetClassAttr", fn := fun _ => fun
  | [d] => { results := [.lit (.bool true)], args := [d] }
  | _ => none }
def fnSetClassAttrRow : OpenClaim := { program := "ytlpchicpbnmdgab", sum := "389f3dea6661d294e3279bccc5fdaf8a72d94d2d3de6211cb29b3bef2f6e6257", func := "loop.example/objectmodel/laws.FnSetClassAttr", spec := "fnSetClassAttr", recurses := true, apart := false }
def FnSetClassAttrSaid : Prop := fnSetClassAttrRow.holds Try.pinned (OpenSpec.ofChange fnSetClassAttrSpec)

/-- ITS FALSE NEIGHBOUR: 'it returns false'. Refute it at one input. -/
def fnSetClassAttrWrong : ChangeSpec := { name := "fnSetClassAttr", fn := fun _ => fun
  | [d] => { results := [.lit (.bool false)], args := [d] }
  | _ => none }
def FnSetClassAttrWrongFalsely : Prop := fnSetClassAttrRow.holds Try.pinned (OpenSpec.ofChange fnSetClassAttrWrong)

/-- 'laws.FnDelClassAttr': WHATEVER THE INPUT: true; the input reads as it did. -/
def fnDelClassAttrSpec : ChangeSpec := { name := "fnDelClassAttr", fn := fun _ => fun
  | [d] => { results := [.lit (.bool true)], args := [d] }
  | _ => none }
def fnDelClassAttrRow : OpenClaim := { program := "ytlpchicpbnmdgab", sum := "389f3dea6661d294e3279bccc5fdaf8a72d94d2d3de6211cb29b3bef2f6e6257", func := "loop.example/objectmodel/laws.FnDelClassAttr", spec := "fnDelClassAttr", recurses := true, apart := false }
def FnDelClassAttrSaid : Prop := fnDelClassAttrRow.holds Try.pinned (OpenSpec.ofChange fnDelClassAttrSpec)

/-- ITS FALSE NEIGHBOUR: 'it returns false'. Refute it at one input. -/
def fnDelClassAttrWrong : ChangeSpec := { name := "fnDelClassAttr", fn := fun _ => fun
  | [d] => { results := [.lit (.bool false)], args := [d] }
  | _ => none }
def FnDelClassAttrWrongFalsely : Prop := fnDelClassAttrRow.holds Try.pinned (OpenSpec.ofChange fnDelClassAttrWrong)

/-- 'laws.FnHooksOf': WHATEVER THE INPUT: true; the input reads as it did. -/
def fnHooksOfSpec : ChangeSpec := { name := "fnHooksOf", fn := fun _ => fun
  | [d] => { results := [.lit (.bool true)], args := [d] }
  | _ => none }
def fnHooksOfRow : OpenClaim := { program := "ytlpchicpbnmdgab", sum := "389f3dea6661d294e3279bccc5fdaf8a72d94d2d3de6211cb29b3bef2f6e6257", func := "loop.example/objectmodel/laws.FnHooksOf", spec := "fnHooksOf", unfollowed := true, recurses := true, apart := false }
def FnHooksOfSaid : Prop := fnHooksOfRow.holds Try.pinned (OpenSpec.ofChange fnHooksOfSpec)

/-- ITS FALSE NEIGHBOUR: 'it returns false'. Refute it at one input. -/
def fnHooksOfWrong : ChangeSpec := { name := "fnHooksOf", fn := fun _ => fun
  | [d] => { results := [.lit (.bool false)], args := [d] }
  | _ => none }
def FnHooksOfWrongFalsely : Prop := fnHooksOfRow.holds Try.pinned (OpenSpec.ofChange fnHooksOfWrong)

/- THE SECOND FORM. 'bulk': how many values and letters a reading holds, each counted each time it is reached (what is shared counts as often as it is met; a slice's spare places count too). A statement '..UptoSaid' is the law's where the arguments, and the package variables that the reading takes, are together of bulk at most 1048576: NARROWER than '..Said'. Prove '..Said' where nothing that the law and all that it calls make is longer than what came in: it says more and counts as full. Else prove '..UptoSaid'. A law counts once. -/
mutual
def uptoBulk {H : Type} : DataW H → Nat
  | .lit (.string bytes) => bytes.length + 1
  | .lit _ => 1
  | .nil => 1
  | .ptr d => uptoBulk d + 1
  | .slice elems spare => uptoBulkAll elems + uptoBulkAll spare + 1
  | .agg parts => uptoBulkAll parts + 1
  | .iface _ d => uptoBulk d + 1
  | .map entries => uptoBulkEntries entries + 1
  | .held _ => 1
def uptoBulkAll {H : Type} : List (DataW H) → Nat
  | [] => 0
  | d :: r => uptoBulk d + uptoBulkAll r
def uptoBulkEntries {H : Type} : List (Lit × DataW H) → Nat
  | [] => 0
  | x :: r => uptoBulkEntry x + uptoBulkEntries r
def uptoBulkEntry {H : Type} : Lit × DataW H → Nat
  | (.string bytes, d) => bytes.length + uptoBulk d + 1
  | (_, d) => uptoBulk d + 1
 end
def uptoSmall : (H : Type) → List (DataW H) → Bool := fun _ ds => decide (uptoBulkAll ds ≤ 1048576)
def OpenSpec.upto (s : _root_.Go.ChangeSpec) : _root_.Go.OpenSpec := { _root_.Go.OpenSpec.ofChange s with cond := some uptoSmall }

/-- 'laws.FnExactSetClassAttr', WHERE WHAT IT READS IS OF BULK AT MOST 1048576: true; the input reads as it did. -/
def fnExactSetClassAttrUptoRow : OpenClaim := { program := "ytlpchicpbnmdgab", sum := "389f3dea6661d294e3279bccc5fdaf8a72d94d2d3de6211cb29b3bef2f6e6257", func := "loop.example/objectmodel/laws.FnExactSetClassAttr", spec := "fnExactSetClassAttr", recurses := true, apart := false, narrowed := true }
def FnExactSetClassAttrUptoSaid : Prop := fnExactSetClassAttrUptoRow.holds Try.pinned (OpenSpec.upto fnExactSetClassAttrSpec)

/-- 'laws.FnExactDelClassAttr', WHERE WHAT IT READS IS OF BULK AT MOST 1048576: true; the input reads as it did. -/
def fnExactDelClassAttrUptoRow : OpenClaim := { program := "ytlpchicpbnmdgab", sum := "389f3dea6661d294e3279bccc5fdaf8a72d94d2d3de6211cb29b3bef2f6e6257", func := "loop.example/objectmodel/laws.FnExactDelClassAttr", spec := "fnExactDelClassAttr", recurses := true, apart := false, narrowed := true }
def FnExactDelClassAttrUptoSaid : Prop := fnExactDelClassAttrUptoRow.holds Try.pinned (OpenSpec.upto fnExactDelClassAttrSpec)

/-- 'laws.FnSetClassAttr', WHERE WHAT IT READS IS OF BULK AT MOST 1048576: true; the input reads as it did. -/
def fnSetClassAttrUptoRow : OpenClaim := { program := "ytlpchicpbnmdgab", sum := "389f3dea6661d294e3279bccc5fdaf8a72d94d2d3de6211cb29b3bef2f6e6257", func := "loop.example/objectmodel/laws.FnSetClassAttr", spec := "fnSetClassAttr", recurses := true, apart := false, narrowed := true }
def FnSetClassAttrUptoSaid : Prop := fnSetClassAttrUptoRow.holds Try.pinned (OpenSpec.upto fnSetClassAttrSpec)

/-- 'laws.FnDelClassAttr', WHERE WHAT IT READS IS OF BULK AT MOST 1048576: true; the input reads as it did. -/
def fnDelClassAttrUptoRow : OpenClaim := { program := "ytlpchicpbnmdgab", sum := "389f3dea6661d294e3279bccc5fdaf8a72d94d2d3de6211cb29b3bef2f6e6257", func := "loop.example/objectmodel/laws.FnDelClassAttr", spec := "fnDelClassAttr", recurses := true, apart := false, narrowed := true }
def FnDelClassAttrUptoSaid : Prop := fnDelClassAttrUptoRow.holds Try.pinned (OpenSpec.upto fnDelClassAttrSpec)

/-- 'laws.FnHooksOf', WHERE WHAT IT READS IS OF BULK AT MOST 1048576: true; the input reads as it did. -/
def fnHooksOfUptoRow : OpenClaim := { program := "ytlpchicpbnmdgab", sum := "389f3dea6661d294e3279bccc5fdaf8a72d94d2d3de6211cb29b3bef2f6e6257", func := "loop.example/objectmodel/laws.FnHooksOf", spec := "fnHooksOf", unfollowed := true, recurses := true, apart := false, narrowed := true }
def FnHooksOfUptoSaid : Prop := fnHooksOfUptoRow.holds Try.pinned (OpenSpec.upto fnHooksOfSpec)

end Rows
end Go.Proofs.Ytlpchicpbnmdgab
