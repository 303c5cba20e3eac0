/-
  No cell of these rows narrows 'for every input' (looked for: loops, veiled, ifaces, maps, wideKeys, modest, calm, conditions, laid).
  DERIVED. THE GIVEN ROWS OF THIS SEAT. 6 by the template 'for every input the law returns true; each argument reads behind the call as it read before'; 0 by the template 'total and deterministic' (their statements: YtpiodcmkdehifaaTotals.lean).
  GIVEN WITH THE SEED: the statements are not yours to turn. If you find one false, say at which input.
  Laid BY PROGRAM, IN A SANDBOX (cutbox-rows.mjs): the forced cells as the released guide's own fill.sh prints them over the translation 3fbb87d4a2dbc5f0… (all of the seat's roots in one cut). By AI agents, Wed Nov 11 2026. No macro, syntax, notation, axiom, sorry.
-/
import Derived.Test.YtpiodcmkdehifaaChecked
import GoSem.Claim
import GoSem.ClaimJoined
import GoSem.ClaimMapViews
import Derived.JoinedTies
import Derived.KernelRfl
namespace Go.Proofs.Ytpiodcmkdehifaa
/- THE CELL 'sum', in the pinned program and in every row, IS THE sha256 OF THE DUMP (.gsa) THAT YtpiodcmkdehifaaProg.lean LOADS. Nothing in Lean hashes anything: it is a label: what it is worth is what the hold of that sum in a sandbox is worth. -/
noncomputable def Try.pinned : Pinned := { name := "ytpiodcmkdehifaa", sum := "3fbb87d4a2dbc5f0cceee1d77fdb0c64407977ab4ef8cbdc211caf7e269a8252", checked := Try.checked }
namespace Rows
def none {H : Type} : Left H := { results := [], args := [] }

/-- 'laws.FnFieldsOf': WHATEVER THE INPUT: true; the input reads as it did. -/
def fnFieldsOfSpec : ChangeSpec := { name := "fnFieldsOf", fn := fun _ => fun
  | [d] => { results := [.lit (.bool true)], args := [d] }
  | _ => none }
def fnFieldsOfRow : OpenClaim := { program := "ytpiodcmkdehifaa", sum := "3fbb87d4a2dbc5f0cceee1d77fdb0c64407977ab4ef8cbdc211caf7e269a8252", func := "loop.example/objectmodel/laws.FnFieldsOf", spec := "fnFieldsOf", recurses := true, apart := false }
def FnFieldsOfSaid : Prop := fnFieldsOfRow.holds Try.pinned (OpenSpec.ofChange fnFieldsOfSpec)

/-- ITS FALSE NEIGHBOUR: 'it returns false'. Refute it at one input. -/
def fnFieldsOfWrong : ChangeSpec := { name := "fnFieldsOf", fn := fun _ => fun
  | [d] => { results := [.lit (.bool false)], args := [d] }
  | _ => none }
def FnFieldsOfWrongFalsely : Prop := fnFieldsOfRow.holds Try.pinned (OpenSpec.ofChange fnFieldsOfWrong)

/-- 'laws.FnSizeOf': WHATEVER THE INPUT: true; the input reads as it did. -/
def fnSizeOfSpec : ChangeSpec := { name := "fnSizeOf", fn := fun _ => fun
  | [d] => { results := [.lit (.bool true)], args := [d] }
  | _ => none }
def fnSizeOfRow : OpenClaim := { program := "ytpiodcmkdehifaa", sum := "3fbb87d4a2dbc5f0cceee1d77fdb0c64407977ab4ef8cbdc211caf7e269a8252", func := "loop.example/objectmodel/laws.FnSizeOf", spec := "fnSizeOf", recurses := true, apart := false }
def FnSizeOfSaid : Prop := fnSizeOfRow.holds Try.pinned (OpenSpec.ofChange fnSizeOfSpec)

/-- ITS FALSE NEIGHBOUR: 'it returns false'. Refute it at one input. -/
def fnSizeOfWrong : ChangeSpec := { name := "fnSizeOf", fn := fun _ => fun
  | [d] => { results := [.lit (.bool false)], args := [d] }
  | _ => none }
def FnSizeOfWrongFalsely : Prop := fnSizeOfRow.holds Try.pinned (OpenSpec.ofChange fnSizeOfWrong)

/-- 'laws.FnBestBase': WHATEVER THE INPUT: true; the input reads as it did. -/
def fnBestBaseSpec : ChangeSpec := { name := "fnBestBase", fn := fun _ => fun
  | [d] => { results := [.lit (.bool true)], args := [d] }
  | _ => none }
def fnBestBaseRow : OpenClaim := { program := "ytpiodcmkdehifaa", sum := "3fbb87d4a2dbc5f0cceee1d77fdb0c64407977ab4ef8cbdc211caf7e269a8252", func := "loop.example/objectmodel/laws.FnBestBase", spec := "fnBestBase", recurses := true, apart := false }
def FnBestBaseSaid : Prop := fnBestBaseRow.holds Try.pinned (OpenSpec.ofChange fnBestBaseSpec)

/-- ITS FALSE NEIGHBOUR: 'it returns false'. Refute it at one input. -/
def fnBestBaseWrong : ChangeSpec := { name := "fnBestBase", fn := fun _ => fun
  | [d] => { results := [.lit (.bool false)], args := [d] }
  | _ => none }
def FnBestBaseWrongFalsely : Prop := fnBestBaseRow.holds Try.pinned (OpenSpec.ofChange fnBestBaseWrong)

/-- 'laws.FnPlaceOf': WHATEVER THE INPUT: true; the input reads as it did. -/
def fnPlaceOfSpec : ChangeSpec := { name := "fnPlaceOf", fn := fun _ => fun
  | [d] => { results := [.lit (.bool true)], args := [d] }
  | _ => none }
def fnPlaceOfRow : OpenClaim := { program := "ytpiodcmkdehifaa", sum := "3fbb87d4a2dbc5f0cceee1d77fdb0c64407977ab4ef8cbdc211caf7e269a8252", func := "loop.example/objectmodel/laws.FnPlaceOf", spec := "fnPlaceOf", recurses := true, apart := false }
def FnPlaceOfSaid : Prop := fnPlaceOfRow.holds Try.pinned (OpenSpec.ofChange fnPlaceOfSpec)

/-- ITS FALSE NEIGHBOUR: 'it returns false'. Refute it at one input. -/
def fnPlaceOfWrong : ChangeSpec := { name := "fnPlaceOf", fn := fun _ => fun
  | [d] => { results := [.lit (.bool false)], args := [d] }
  | _ => none }
def FnPlaceOfWrongFalsely : Prop := fnPlaceOfRow.holds Try.pinned (OpenSpec.ofChange fnPlaceOfWrong)

/-- 'laws.FnLayoutClash': WHATEVER THE INPUT: true; the input reads as it did. -/
def fnLayoutClashSpec : ChangeSpec := { name := "fnLayoutClash", fn := fun _ => fun
  | [d] => { results := [.lit (.bool true)], args := [d] }
  | _ => none }
def fnLayoutClashRow : OpenClaim := { program := "ytpiodcmkdehifaa", sum := "3fbb87d4a2dbc5f0cceee1d77fdb0c64407977ab4ef8cbdc211caf7e269a8252", func := "loop.example/objectmodel/laws.FnLayoutClash", spec := "fnLayoutClash", recurses := true, apart := false }
def FnLayoutClashSaid : Prop := fnLayoutClashRow.holds Try.pinned (OpenSpec.ofChange fnLayoutClashSpec)

/-- ITS FALSE NEIGHBOUR: 'it returns false'. Refute it at one input. -/
def fnLayoutClashWrong : ChangeSpec := { name := "fnLayoutClash", fn := fun _ => fun
  | [d] => { results := [.lit (.bool false)], args := [d] }
  | _ => none }
def FnLayoutClashWrongFalsely : Prop := fnLayoutClashRow.holds Try.pinned (OpenSpec.ofChange fnLayoutClashWrong)

/-- 'laws.FnHiddenFields': WHATEVER THE INPUT: true; the input reads as it did. -/
def fnHiddenFieldsSpec : ChangeSpec := { name := "fnHiddenFields", fn := fun _ => fun
  | [d] => { results := [.lit (.bool true)], args := [d] }
  | _ => none }
def fnHiddenFieldsRow : OpenClaim := { program := "ytpiodcmkdehifaa", sum := "3fbb87d4a2dbc5f0cceee1d77fdb0c64407977ab4ef8cbdc211caf7e269a8252", func := "loop.example/objectmodel/laws.FnHiddenFields", spec := "fnHiddenFields", recurses := true, apart := false }
def FnHiddenFieldsSaid : Prop := fnHiddenFieldsRow.holds Try.pinned (OpenSpec.ofChange fnHiddenFieldsSpec)

/-- ITS FALSE NEIGHBOUR: 'it returns false'. Refute it at one input. -/
def fnHiddenFieldsWrong : ChangeSpec := { name := "fnHiddenFields", fn := fun _ => fun
  | [d] => { results := [.lit (.bool false)], args := [d] }
  | _ => none }
def FnHiddenFieldsWrongFalsely : Prop := fnHiddenFieldsRow.holds Try.pinned (OpenSpec.ofChange fnHiddenFieldsWrong)

/- THE SECOND FORM. 'bulk': how many values and letters a reading holds, each counted each time it is reached (what is shared counts as often as it is met; a slice's spare places count too). A statement '..UptoSaid' is the law's where the arguments, and the package variables that the reading takes, are together of bulk at most 1048576: NARROWER than '..Said'. Prove '..Said' where nothing that the law and all that it calls make is longer than what came in: it says more and counts as full. Else prove '..UptoSaid'. A law counts once. -/
mutual
def uptoBulk {H : Type} : DataW H → Nat
  | .lit (.string bytes) => bytes.length + 1
  | .lit _ => 1
  | .nil => 1
  | .ptr d => uptoBulk d + 1
  | .slice elems spare => uptoBulkAll elems + uptoBulkAll spare + 1
  | .agg parts => uptoBulkAll parts + 1
  | .iface _ d => uptoBulk d + 1
  | .map entries => uptoBulkEntries entries + 1
  | .held _ => 1
def uptoBulkAll {H : Type} : List (DataW H) → Nat
  | [] => 0
  | d :: r => uptoBulk d + uptoBulkAll r
def uptoBulkEntries {H : Type} : List (Lit × DataW H) → Nat
  | [] => 0
  | x :: r => uptoBulkEntry x + uptoBulkEntries r
def uptoBulkEntry {H : Type} : Lit × DataW H → Nat
  | (.string bytes, d) => bytes.length + uptoBulk d + 1
  | (_, d) => uptoBulk d + 1
 end
def uptoSmall : (H : Type) → List (DataW H) → Bool := fun _ ds => decide (uptoBulkAll ds ≤ 1048576)
def OpenSpec.upto (s : _root_.Go.ChangeSpec) : _root_.Go.OpenSpec := { _root_.Go.OpenSpec.ofChange s with cond := some uptoSmall }

/-- 'laws.FnFieldsOf', WHERE WHAT IT READS IS OF BULK AT MOST 1048576: true; the input reads as it did. -/
def fnFieldsOfUptoRow : OpenClaim := { program := "ytpiodcmkdehifaa", sum := "3fbb87d4a2dbc5f0cceee1d77fdb0c64407977ab4ef8cbdc211caf7e269a8252", func := "loop.example/objectmodel/laws.FnFieldsOf", spec := "fnFieldsOf", recurses := true, apart := false, narrowed := true }
def FnFieldsOfUptoSaid : Prop := fnFieldsOfUptoRow.holds Try.pinned (OpenSpec.upto fnFieldsOfSpec)

/-- 'laws.FnSizeOf', WHERE WHAT IT READS IS OF BULK AT MOST 1048576: true; the input reads as it did. -/
def fnSizeOfUptoRow : OpenClaim := { program := "ytpiodcmkdehifaa", sum := "3fbb87d4a2dbc5f0cceee1d77fdb0c64407977ab4ef8cbdc211caf7e269a8252", func := "loop.example/objectmodel/laws.FnSizeOf", spec := "fnSizeOf", recurses := true, apart := false, narrowed := true }
def FnSizeOfUptoSaid : Prop := fnSizeOfUptoRow.holds Try.pinned (OpenSpec.upto fnSizeOfSpec)

/-- 'laws.FnBestBase', WHERE WHAT IT READS IS OF BULK AT MOST 1048576: true; the input reads as it did. -/
def fnBestBaseUptoRow : OpenClaim := { program := "ytpiodcmkdehifaa", sum := "3fbb87d4a2dbc5f0cceee1d77fdb0c64407977ab4ef8cbdc211caf7e269a8252", func := "loop.example/objectmodel/laws.FnBestBase", spec := "fnBestBase", recurses := true, apart := false, narrowed := true }
def FnBestBaseUptoSaid : Prop := fnBestBaseUptoRow.holds Try.pinned (OpenSpec.upto fnBestBaseSpec)

/-- 'laws.FnPlaceOf', WHERE WHAT IT READS IS OF BULK AT MOST 1048576: true; the input reads as it did. -/
def fnPlaceOfUptoRow : OpenClaim := { program := "ytpiodcmkdehifaa", sum := "3fbb87d4a2dbc5f0cceee1d77fdb0c64407977ab4ef8cbdc211caf7e269a8252", func := "loop.example/objectmodel/laws.FnPlaceOf", spec := "fnPlaceOf", recurses := true, apart := false, narrowed := true }
def FnPlaceOfUptoSaid : Prop := fnPlaceOfUptoRow.holds Try.pinned (OpenSpec.upto fnPlaceOfSpec)

/-- 'laws.FnLayoutClash', WHERE WHAT IT READS IS OF BULK AT MOST 1048576: true; the input reads as it did. -/
def fnLayoutClashUptoRow : OpenClaim := { program := "ytpiodcmkdehifaa", sum := "3fbb87d4a2dbc5f0cceee1d77fdb0c64407977ab4ef8cbdc211caf7e269a8252", func := "loop.example/objectmodel/laws.FnLayoutClash", spec := "fnLayoutClash", recurses := true, apart := false, narrowed := true }
def FnLayoutClashUptoSaid : Prop := fnLayoutClashUptoRow.holds Try.pinned (OpenSpec.upto fnLayoutClashSpec)

/-- 'laws.FnHiddenFields', WHERE WHAT IT READS IS OF BULK AT MOST 1048576: true; the input reads as it did. -/
def fnHiddenFieldsUptoRow : OpenClaim := { program := "ytpiodcmkdehifaa", sum := "3fbb87d4a2dbc5f0cceee1d77fdb0c64407977ab4ef8cbdc211caf7e269a8252", func := "loop.example/objectmodel/laws.FnHiddenFields", spec := "fnHiddenFields", recurses := true, apart := false, narrowed := true }
def FnHiddenFieldsUptoSaid : Prop := fnHiddenFieldsUptoRow.holds Try.pinned (OpenSpec.upto fnHiddenFieldsSpec)

end Rows
end Go.Proofs.Ytpiodcmkdehifaa
