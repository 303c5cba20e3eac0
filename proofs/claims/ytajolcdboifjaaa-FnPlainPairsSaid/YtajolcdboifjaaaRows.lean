/-
  No cell of these rows narrows 'for every input' (looked for: loops, veiled, ifaces, maps, wideKeys, modest, calm, conditions, laid).
  DERIVED. THE GIVEN ROWS OF THIS SEAT. 12 by the template 'for every input the law returns true; each argument reads behind the call as it read before'; 0 by the template 'total and deterministic' (their statements: YtajolcdboifjaaaTotals.lean).
  GIVEN WITH THE SEED: the statements are not yours to turn. If you find one false, say at which input.
  Laid BY PROGRAM, IN A SANDBOX (cutbox-rows.mjs): the forced cells as the released guide's own fill.sh prints them over the translation 0c1555baa7333f26… (all of the seat's roots in one cut). By AI agents, Wed Nov 11 2026. No macro, syntax, notation, axiom, sorry.
-/
import Derived.Test.YtajolcdboifjaaaChecked
import GoSem.Claim
import GoSem.ClaimJoined
import GoSem.ClaimMapViews
import Derived.JoinedTies
import Derived.KernelRfl
namespace Go.Proofs.Ytajolcdboifjaaa
/- THE CELL 'sum', in the pinned program and in every row, IS THE sha256 OF THE DUMP (.gsa) THAT YtajolcdboifjaaaProg.lean LOADS. Nothing in Lean hashes anything: it is a label: what it is worth is what the hold of that sum in a sandbox is worth. -/
noncomputable def Try.pinned : Pinned := { name := "ytajolcdboifjaaa", sum := "0c1555baa7333f264d9555aeb93e9ad87b60ef7c9a86710ae6dd8bc7cc9fb9d6", checked := Try.checked }
namespace Rows
def none {H : Type} : Left H := { results := [], args := [] }

/-- 'laws.FnValidOps': WHATEVER THE INPUT: true; the input reads as it did. -/
def fnValidOpsSpec : ChangeSpec := { name := "fnValidOps", fn := fun _ => fun
  | [d] => { results := [.lit (.bool true)], args := [d] }
  | _ => none }
def fnValidOpsRow : OpenClaim := { program := "ytajolcdboifjaaa", sum := "0c1555baa7333f264d9555aeb93e9ad87b60ef7c9a86710ae6dd8bc7cc9fb9d6", func := "loop.example/objectmodel/laws.FnValidOps", spec := "fnValidOps", apart := false }
def FnValidOpsSaid : Prop := fnValidOpsRow.holds Try.pinned (OpenSpec.ofChange fnValidOpsSpec)

/-- ITS FALSE NEIGHBOUR: 'it returns false'. Refute it at one input. -/
def fnValidOpsWrong : ChangeSpec := { name := "fnValidOps", fn := fun _ => fun
  | [d] => { results := [.lit (.bool false)], args := [d] }
  | _ => none }
def FnValidOpsWrongFalsely : Prop := fnValidOpsRow.holds Try.pinned (OpenSpec.ofChange fnValidOpsWrong)

/-- 'laws.FnExactValidOps': WHATEVER THE INPUT: true; the input reads as it did. -/
def fnExactValidOpsSpec : ChangeSpec := { name := "fnExactValidOps", fn := fun _ => fun
  | [d] => { results := [.lit (.bool true)], args := [d] }
  | _ => none }
def fnExactValidOpsRow : OpenClaim := { program := "ytajolcdboifjaaa", sum := "0c1555baa7333f264d9555aeb93e9ad87b60ef7c9a86710ae6dd8bc7cc9fb9d6", func := "loop.example/objectmodel/laws.FnExactValidOps", spec := "fnExactValidOps", apart := false }
def FnExactValidOpsSaid : Prop := fnExactValidOpsRow.holds Try.pinned (OpenSpec.ofChange fnExactValidOpsSpec)

/-- ITS FALSE NEIGHBOUR: 'it returns false'. Refute it at one input. -/
def fnExactValidOpsWrong : ChangeSpec := { name := "fnExactValidOps", fn := fun _ => fun
  | [d] => { results := [.lit (.bool false)], args := [d] }
  | _ => none }
def FnExactValidOpsWrongFalsely : Prop := fnExactValidOpsRow.holds Try.pinned (OpenSpec.ofChange fnExactValidOpsWrong)

/-- 'laws.FnSamePairs': WHATEVER THE INPUT: true; the input reads as it did. -/
def fnSamePairsSpec : ChangeSpec := { name := "fnSamePairs", fn := fun _ => fun
  | [d] => { results := [.lit (.bool true)], args := [d] }
  | _ => none }
def fnSamePairsRow : OpenClaim := { program := "ytajolcdboifjaaa", sum := "0c1555baa7333f264d9555aeb93e9ad87b60ef7c9a86710ae6dd8bc7cc9fb9d6", func := "loop.example/objectmodel/laws.FnSamePairs", spec := "fnSamePairs", apart := false }
def FnSamePairsSaid : Prop := fnSamePairsRow.holds Try.pinned (OpenSpec.ofChange fnSamePairsSpec)

/-- ITS FALSE NEIGHBOUR: 'it returns false'. Refute it at one input. -/
def fnSamePairsWrong : ChangeSpec := { name := "fnSamePairs", fn := fun _ => fun
  | [d] => { results := [.lit (.bool false)], args := [d] }
  | _ => none }
def FnSamePairsWrongFalsely : Prop := fnSamePairsRow.holds Try.pinned (OpenSpec.ofChange fnSamePairsWrong)

/-- 'laws.FnExactSamePairs': WHATEVER THE INPUT: true; the input reads as it did. -/
def fnExactSamePairsSpec : ChangeSpec := { name := "fnExactSamePairs", fn := fun _ => fun
  | [d1, d2] => { results := [.lit (.bool true)], args := [d1, d2] }
  | _ => none }
def fnExactSamePairsRow : OpenClaim := { program := "ytajolcdboifjaaa", sum := "0c1555baa7333f264d9555aeb93e9ad87b60ef7c9a86710ae6dd8bc7cc9fb9d6", func := "loop.example/objectmodel/laws.FnExactSamePairs", spec := "fnExactSamePairs", apart := false }
def FnExactSamePairsSaid : Prop := fnExactSamePairsRow.holds Try.pinned (OpenSpec.ofChange fnExactSamePairsSpec)

/-- ITS FALSE NEIGHBOUR: 'it returns false'. Refute it at one input. -/
def fnExactSamePairsWrong : ChangeSpec := { name := "fnExactSamePairs", fn := fun _ => fun
  | [d1, d2] => { results := [.lit (.bool false)], args := [d1, d2] }
  | _ => none }
def FnExactSamePairsWrongFalsely : Prop := fnExactSamePairsRow.holds Try.pinned (OpenSpec.ofChange fnExactSamePairsWrong)

/-- 'laws.FnPlainPairs': WHATEVER THE INPUT: true; the input reads as it did. -/
def fnPlainPairsSpec : ChangeSpec := { name := "fnPlainPairs", fn := fun _ => fun
  | [d] => { results := [.lit (.bool true)], args := [d] }
  | _ => none }
def fnPlainPairsRow : OpenClaim := { program := "ytajolcdboifjaaa", sum := "0c1555baa7333f264d9555aeb93e9ad87b60ef7c9a86710ae6dd8bc7cc9fb9d6", func := "loop.example/objectmodel/laws.FnPlainPairs", spec := "fnPlainPairs", apart := false }
def FnPlainPairsSaid : Prop := fnPlainPairsRow.holds Try.pinned (OpenSpec.ofChange fnPlainPairsSpec)

/-- ITS FALSE NEIGHBOUR: 'it returns false'. Refute it at one input. -/
def fnPlainPairsWrong : ChangeSpec := { name := "fnPlainPairs", fn := fun _ => fun
  | [d] => { results := [.lit (.bool false)], args := [d] }
  | _ => none }
def FnPlainPairsWrongFalsely : Prop := fnPlainPairsRow.holds Try.pinned (OpenSpec.ofChange fnPlainPairsWrong)

/-- 'laws.FnExactPlainPairs': WHATEVER THE INPUT: true; the input reads as it did. -/
def fnExactPlainPairsSpec : ChangeSpec := { name := "fnExactPlainPairs", fn := fun _ => fun
  | [d1, d2] => { results := [.lit (.bool true)], args := [d1, d2] }
  | _ => none }
def fnExactPlainPairsRow : OpenClaim := { program := "ytajolcdboifjaaa", sum := "0c1555baa7333f264d9555aeb93e9ad87b60ef7c9a86710ae6dd8bc7cc9fb9d6", func := "loop.example/objectmodel/laws.FnExactPlainPairs", spec := "fnExactPlainPairs", apart := false }
def FnExactPlainPairsSaid : Prop := fnExactPlainPairsRow.holds Try.pinned (OpenSpec.ofChange fnExactPlainPairsSpec)

/-- ITS FALSE NEIGHBOUR: 'it returns false'. Refute it at one input. -/
def fnExactPlainPairsWrong : ChangeSpec := { name := "fnExactPlainPairs", fn := fun _ => fun
  | [d1, d2] => { results := [.lit (.bool false)], args := [d1, d2] }
  | _ => none }
def FnExactPlainPairsWrongFalsely : Prop := fnExactPlainPairsRow.holds Try.pinned (OpenSpec.ofChange fnExactPlainPairsWrong)

/-- 'laws.FnExactValidHeap': WHATEVER THE INPUT: true; the input reads as it did. -/
def fnExactValidHeapSpec : ChangeSpec := { name := "fnExactValidHeap", fn := fun _ => fun
  | [d] => { results := [.lit (.bool true)], args := [d] }
  | _ => none }
def fnExactValidHeapRow : OpenClaim := { program := "ytajolcdboifjaaa", sum := "0c1555baa7333f264d9555aeb93e9ad87b60ef7c9a86710ae6dd8bc7cc9fb9d6", func := "loop.example/objectmodel/laws.FnExactValidHeap", spec := "fnExactValidHeap", apart := false }
def FnExactValidHeapSaid : Prop := fnExactValidHeapRow.holds Try.pinned (OpenSpec.ofChange fnExactValidHeapSpec)

/-- ITS FALSE NEIGHBOUR: 'it returns false'. Refute it at one input. -/
def fnExactValidHeapWrong : ChangeSpec := { name := "fnExactValidHeap", fn := fun _ => fun
  | [d] => { results := [.lit (.bool false)], args := [d] }
  | _ => none }
def FnExactValidHeapWrongFalsely : Prop := fnExactValidHeapRow.holds Try.pinned (OpenSpec.ofChange fnExactValidHeapWrong)

/-- 'laws.FnExactPairsOf': WHATEVER THE INPUT: true; the input reads as it did. -/
def fnExactPairsOfSpec : ChangeSpec := { name := "fnExactPairsOf", fn := fun _ => fun
  | [d1, d2] => { results := [.lit (.bool true)], args := [d1, d2] }
  | _ => none }
def fnExactPairsOfRow : OpenClaim := { program := "ytajolcdboifjaaa", sum := "0c1555baa7333f264d9555aeb93e9ad87b60ef7c9a86710ae6dd8bc7cc9fb9d6", func := "loop.example/objectmodel/laws.FnExactPairsOf", spec := "fnExactPairsOf", apart := false }
def FnExactPairsOfSaid : Prop := fnExactPairsOfRow.holds Try.pinned (OpenSpec.ofChange fnExactPairsOfSpec)

/-- ITS FALSE NEIGHBOUR: 'it returns false'. Refute it at one input. -/
def fnExactPairsOfWrong : ChangeSpec := { name := "fnExactPairsOf", fn := fun _ => fun
  | [d1, d2] => { results := [.lit (.bool false)], args := [d1, d2] }
  | _ => none }
def FnExactPairsOfWrongFalsely : Prop := fnExactPairsOfRow.holds Try.pinned (OpenSpec.ofChange fnExactPairsOfWrong)

/-- 'laws.FnExactValueIn': WHATEVER THE INPUT: true; the input reads as it did. -/
def fnExactValueInSpec : ChangeSpec := { name := "fnExactValueIn", fn := fun _ => fun
  | [d1, d2, d3] => { results := [.lit (.bool true)], args := [d1, d2, d3] }
  | _ => none }
def fnExactValueInRow : OpenClaim := { program := "ytajolcdboifjaaa", sum := "0c1555baa7333f264d9555aeb93e9ad87b60ef7c9a86710ae6dd8bc7cc9fb9d6", func := "loop.example/objectmodel/laws.FnExactValueIn", spec := "fnExactValueIn", apart := false }
def FnExactValueInSaid : Prop := fnExactValueInRow.holds Try.pinned (OpenSpec.ofChange fnExactValueInSpec)

/-- ITS FALSE NEIGHBOUR: 'it returns false'. Refute it at one input. -/
def fnExactValueInWrong : ChangeSpec := { name := "fnExactValueIn", fn := fun _ => fun
  | [d1, d2, d3] => { results := [.lit (.bool false)], args := [d1, d2, d3] }
  | _ => none }
def FnExactValueInWrongFalsely : Prop := fnExactValueInRow.holds Try.pinned (OpenSpec.ofChange fnExactValueInWrong)

/-- 'laws.FnExactCellsOf': WHATEVER THE INPUT: true; the input reads as it did. -/
def fnExactCellsOfSpec : ChangeSpec := { name := "fnExactCellsOf", fn := fun _ => fun
  | [d] => { results := [.lit (.bool true)], args := [d] }
  | _ => none }
def fnExactCellsOfRow : OpenClaim := { program := "ytajolcdboifjaaa", sum := "0c1555baa7333f264d9555aeb93e9ad87b60ef7c9a86710ae6dd8bc7cc9fb9d6", func := "loop.example/objectmodel/laws.FnExactCellsOf", spec := "fnExactCellsOf", apart := false }
def FnExactCellsOfSaid : Prop := fnExactCellsOfRow.holds Try.pinned (OpenSpec.ofChange fnExactCellsOfSpec)

/-- ITS FALSE NEIGHBOUR: 'it returns false'. Refute it at one input. -/
def fnExactCellsOfWrong : ChangeSpec := { name := "fnExactCellsOf", fn := fun _ => fun
  | [d] => { results := [.lit (.bool false)], args := [d] }
  | _ => none }
def FnExactCellsOfWrongFalsely : Prop := fnExactCellsOfRow.holds Try.pinned (OpenSpec.ofChange fnExactCellsOfWrong)

/-- 'laws.FnCellsOf': WHATEVER THE INPUT: true; the input reads as it did. -/
def fnCellsOfSpec : ChangeSpec := { name := "fnCellsOf", fn := fun _ => fun
  | [d] => { results := [.lit (.bool true)], args := [d] }
  | _ => none }
def fnCellsOfRow : OpenClaim := { program := "ytajolcdboifjaaa", sum := "0c1555baa7333f264d9555aeb93e9ad87b60ef7c9a86710ae6dd8bc7cc9fb9d6", func := "loop.example/objectmodel/laws.FnCellsOf", spec := "fnCellsOf", apart := false }
def FnCellsOfSaid : Prop := fnCellsOfRow.holds Try.pinned (OpenSpec.ofChange fnCellsOfSpec)

/-- ITS FALSE NEIGHBOUR: 'it returns false'. Refute it at one input. -/
def fnCellsOfWrong : ChangeSpec := { name := "fnCellsOf", fn := fun _ => fun
  | [d] => { results := [.lit (.bool false)], args := [d] }
  | _ => none }
def FnCellsOfWrongFalsely : Prop := fnCellsOfRow.holds Try.pinned (OpenSpec.ofChange fnCellsOfWrong)

/-- 'laws.FnExactStepHeap': WHATEVER THE INPUT: true; the input reads as it did. -/
def fnExactStepHeapSpec : ChangeSpec := { name := "fnExactStepHeap", fn := fun _ => fun
  | [d1, d2] => { results := [.lit (.bool true)], args := [d1, d2] }
  | _ => none }
def fnExactStepHeapRow : OpenClaim := { program := "ytajolcdboifjaaa", sum := "0c1555baa7333f264d9555aeb93e9ad87b60ef7c9a86710ae6dd8bc7cc9fb9d6", func := "loop.example/objectmodel/laws.FnExactStepHeap", spec := "fnExactStepHeap", apart := false }
def FnExactStepHeapSaid : Prop := fnExactStepHeapRow.holds Try.pinned (OpenSpec.ofChange fnExactStepHeapSpec)

/-- ITS FALSE NEIGHBOUR: 'it returns false'. Refute it at one input. -/
def fnExactStepHeapWrong : ChangeSpec := { name := "fnExactStepHeap", fn := fun _ => fun
  | [d1, d2] => { results := [.lit (.bool false)], args := [d1, d2] }
  | _ => none }
def FnExactStepHeapWrongFalsely : Prop := fnExactStepHeapRow.holds Try.pinned (OpenSpec.ofChange fnExactStepHeapWrong)

/- THE SECOND FORM. 'bulk': how many values and letters a reading holds, each counted each time it is reached (what is shared counts as often as it is met; a slice's spare places count too). A statement '..UptoSaid' is the law's where the arguments, and the package variables that the reading takes, are together of bulk at most 1048576: NARROWER than '..Said'. Prove '..Said' where nothing that the law and all that it calls make is longer than what came in: it says more and counts as full. Else prove '..UptoSaid'. A law counts once. -/
mutual
def uptoBulk {H : Type} : DataW H → Nat
  | .lit (.string bytes) => bytes.length + 1
  | .lit _ => 1
  | .nil => 1
  | .ptr d => uptoBulk d + 1
  | .slice elems spare => uptoBulkAll elems + uptoBulkAll spare + 1
  | .agg parts => uptoBulkAll parts + 1
  | .iface _ d => uptoBulk d + 1
  | .map entries => uptoBulkEntries entries + 1
  | .held _ => 1
def uptoBulkAll {H : Type} : List (DataW H) → Nat
  | [] => 0
  | d :: r => uptoBulk d + uptoBulkAll r
def uptoBulkEntries {H : Type} : List (Lit × DataW H) → Nat
  | [] => 0
  | x :: r => uptoBulkEntry x + uptoBulkEntries r
def uptoBulkEntry {H : Type} : Lit × DataW H → Nat
  | (.string bytes, d) => bytes.length + uptoBulk d + 1
  | (_, d) => uptoBulk d + 1
 end
def uptoSmall : (H : Type) → List (DataW H) → Bool := fun _ ds => decide (uptoBulkAll ds ≤ 1048576)
def OpenSpec.upto (s : _root_.Go.ChangeSpec) : _root_.Go.OpenSpec := { _root_.Go.OpenSpec.ofChange s with cond := some uptoSmall }

/-- 'laws.FnValidOps', WHERE WHAT IT READS IS OF BULK AT MOST 1048576: true; the input reads as it did. -/
def fnValidOpsUptoRow : OpenClaim := { program := "ytajolcdboifjaaa", sum := "0c1555baa7333f264d9555aeb93e9ad87b60ef7c9a86710ae6dd8bc7cc9fb9d6", func := "loop.example/objectmodel/laws.FnValidOps", spec := "fnValidOps", apart := false, narrowed := true }
def FnValidOpsUptoSaid : Prop := fnValidOpsUptoRow.holds Try.pinned (OpenSpec.upto fnValidOpsSpec)

/-- 'laws.FnExactValidOps', WHERE WHAT IT READS IS OF BULK AT MOST 1048576: true; the input reads as it did. -/
def fnExactValidOpsUptoRow : OpenClaim := { program := "ytajolcdboifjaaa", sum := "0c1555baa7333f264d9555aeb93e9ad87b60ef7c9a86710ae6dd8bc7cc9fb9d6", func := "loop.example/objectmodel/laws.FnExactValidOps", spec := "fnExactValidOps", apart := false, narrowed := true }
def FnExactValidOpsUptoSaid : Prop := fnExactValidOpsUptoRow.holds Try.pinned (OpenSpec.upto fnExactValidOpsSpec)

/-- 'laws.FnSamePairs', WHERE WHAT IT READS IS OF BULK AT MOST 1048576: true; the input reads as it did. -/
def fnSamePairsUptoRow : OpenClaim := { program := "ytajolcdboifjaaa", sum := "0c1555baa7333f264d9555aeb93e9ad87b60ef7c9a86710ae6dd8bc7cc9fb9d6", func := "loop.example/objectmodel/laws.FnSamePairs", spec := "fnSamePairs", apart := false, narrowed := true }
def FnSamePairsUptoSaid : Prop := fnSamePairsUptoRow.holds Try.pinned (OpenSpec.upto fnSamePairsSpec)

/-- 'laws.FnExactSamePairs', WHERE WHAT IT READS IS OF BULK AT MOST 1048576: true; the input reads as it did. -/
def fnExactSamePairsUptoRow : OpenClaim := { program := "ytajolcdboifjaaa", sum := "0c1555baa7333f264d9555aeb93e9ad87b60ef7c9a86710ae6dd8bc7cc9fb9d6", func := "loop.example/objectmodel/laws.FnExactSamePairs", spec := "fnExactSamePairs", apart := false, narrowed := true }
def FnExactSamePairsUptoSaid : Prop := fnExactSamePairsUptoRow.holds Try.pinned (OpenSpec.upto fnExactSamePairsSpec)

/-- 'laws.FnPlainPairs', WHERE WHAT IT READS IS OF BULK AT MOST 1048576: true; the input reads as it did. -/
def fnPlainPairsUptoRow : OpenClaim := { program := "ytajolcdboifjaaa", sum := "0c1555baa7333f264d9555aeb93e9ad87b60ef7c9a86710ae6dd8bc7cc9fb9d6", func := "loop.example/objectmodel/laws.FnPlainPairs", spec := "fnPlainPairs", apart := false, narrowed := true }
def FnPlainPairsUptoSaid : Prop := fnPlainPairsUptoRow.holds Try.pinned (OpenSpec.upto fnPlainPairsSpec)

/-- 'laws.FnExactPlainPairs', WHERE WHAT IT READS IS OF BULK AT MOST 1048576: true; the input reads as it did. -/
def fnExactPlainPairsUptoRow : OpenClaim := { program := "ytajolcdboifjaaa", sum := "0c1555baa7333f264d9555aeb93e9ad87b60ef7c9a86710ae6dd8bc7cc9fb9d6", func := "loop.example/objectmodel/laws.FnExactPlainPairs", spec := "fnExactPlainPairs", apart := false, narrowed := true }
def FnExactPlainPairsUptoSaid : Prop := fnExactPlainPairsUptoRow.holds Try.pinned (OpenSpec.upto fnExactPlainPairsSpec)

/-- 'laws.FnExactValidHeap', WHERE WHAT IT READS IS OF BULK AT MOST 1048576: true; the input reads as it did. -/
def fnExactValidHeapUptoRow : OpenClaim := { program := "ytajolcdboifjaaa", sum := "0c1555baa7333f264d9555aeb93e9ad87b60ef7c9a86710ae6dd8bc7cc9fb9d6", func := "loop.example/objectmodel/laws.FnExactValidHeap", spec := "fnExactValidHeap", apart := false, narrowed := true }
def FnExactValidHeapUptoSaid : Prop := fnExactValidHeapUptoRow.holds Try.pinned (OpenSpec.upto fnExactValidHeapSpec)

/-- 'laws.FnExactPairsOf', WHERE WHAT IT READS IS OF BULK AT MOST 1048576: true; the input reads as it did. -/
def fnExactPairsOfUptoRow : OpenClaim := { program := "ytajolcdboifjaaa", sum := "0c1555baa7333f264d9555aeb93e9ad87b60ef7c9a86710ae6dd8bc7cc9fb9d6", func := "loop.example/objectmodel/laws.FnExactPairsOf", spec := "fnExactPairsOf", apart := false, narrowed := true }
def FnExactPairsOfUptoSaid : Prop := fnExactPairsOfUptoRow.holds Try.pinned (OpenSpec.upto fnExactPairsOfSpec)

/-- 'laws.FnExactValueIn', WHERE WHAT IT READS IS OF BULK AT MOST 1048576: true; the input reads as it did. -/
def fnExactValueInUptoRow : OpenClaim := { program := "ytajolcdboifjaaa", sum := "0c1555baa7333f264d9555aeb93e9ad87b60ef7c9a86710ae6dd8bc7cc9fb9d6", func := "loop.example/objectmodel/laws.FnExactValueIn", spec := "fnExactValueIn", apart := false, narrowed := true }
def FnExactValueInUptoSaid : Prop := fnExactValueInUptoRow.holds Try.pinned (OpenSpec.upto fnExactValueInSpec)

/-- 'laws.FnExactCellsOf', WHERE WHAT IT READS IS OF BULK AT MOST 1048576: true; the input reads as it did. -/
def fnExactCellsOfUptoRow : OpenClaim := { program := "ytajolcdboifjaaa", sum := "0c1555baa7333f264d9555aeb93e9ad87b60ef7c9a86710ae6dd8bc7cc9fb9d6", func := "loop.example/objectmodel/laws.FnExactCellsOf", spec := "fnExactCellsOf", apart := false, narrowed := true }
def FnExactCellsOfUptoSaid : Prop := fnExactCellsOfUptoRow.holds Try.pinned (OpenSpec.upto fnExactCellsOfSpec)

/-- 'laws.FnCellsOf', WHERE WHAT IT READS IS OF BULK AT MOST 1048576: true; the input reads as it did. -/
def fnCellsOfUptoRow : OpenClaim := { program := "ytajolcdboifjaaa", sum := "0c1555baa7333f264d9555aeb93e9ad87b60ef7c9a86710ae6dd8bc7cc9fb9d6", func := "loop.example/objectmodel/laws.FnCellsOf", spec := "fnCellsOf", apart := false, narrowed := true }
def FnCellsOfUptoSaid : Prop := fnCellsOfUptoRow.holds Try.pinned (OpenSpec.upto fnCellsOfSpec)

/-- 'laws.FnExactStepHeap', WHERE WHAT IT READS IS OF BULK AT MOST 1048576: true; the input reads as it did. -/
def fnExactStepHeapUptoRow : OpenClaim := { program := "ytajolcdboifjaaa", sum := "0c1555baa7333f264d9555aeb93e9ad87b60ef7c9a86710ae6dd8bc7cc9fb9d6", func := "loop.example/objectmodel/laws.FnExactStepHeap", spec := "fnExactStepHeap", apart := false, narrowed := true }
def FnExactStepHeapUptoSaid : Prop := fnExactStepHeapUptoRow.holds Try.pinned (OpenSpec.upto fnExactStepHeapSpec)

end Rows
end Go.Proofs.Ytajolcdboifjaaa
