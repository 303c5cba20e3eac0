/-
  No cell of these rows narrows 'for every input' (looked for: loops, veiled, ifaces, maps, wideKeys, modest, calm, conditions, laid).
  DERIVED. THE GIVEN ROWS OF THIS SEAT. 12 by the template 'for every input the law returns true; each argument reads behind the call as it read before'; 0 by the template 'total and deterministic' (their statements: YtlpchicpbnmdgaaTotals.lean).
  GIVEN WITH THE SEED: the statements are not yours to turn. If you find one false, say at which input.
  Laid BY PROGRAM, IN A SANDBOX (cutbox-rows.mjs): the forced cells as the released guide's own fill.sh prints them over the translation e747a46d9d40074c… (all of the seat's roots in one cut). By AI agents, Wed Nov 11 2026. No macro, syntax, notation, axiom, sorry.
-/
import Derived.Test.YtlpchicpbnmdgaaChecked
import GoSem.Claim
import GoSem.ClaimJoined
import GoSem.ClaimMapViews
import Derived.JoinedTies
import Derived.KernelRfl
namespace Go.Proofs.Ytlpchicpbnmdgaa
/- THE CELL 'sum', in the pinned program and in every row, IS THE sha256 OF THE DUMP (.gsa) THAT YtlpchicpbnmdgaaProg.lean LOADS. Nothing in Lean hashes anything: it is a label: what it is worth is what the hold of that sum in a sandbox is worth. -/
noncomputable def Try.pinned : Pinned := { name := "ytlpchicpbnmdgaa", sum := "e747a46d9d40074c60c7904017216e369974184658f9033cecfa0ce539189c08", checked := Try.checked }
namespace Rows
def none {H : Type} : Left H := { results := [], args := [] }

/-- 'laws.FnValidWorks': WHATEVER THE INPUT: true; the input reads as it did. -/
def fnValidWorksSpec : ChangeSpec := { name := "fnValidWorks", fn := fun _ => fun
  | [d] => { results := [.lit (.bool true)], args := [d] }
  | _ => none }
def fnValidWorksRow : OpenClaim := { program := "ytlpchicpbnmdgaa", sum := "e747a46d9d40074c60c7904017216e369974184658f9033cecfa0ce539189c08", func := "loop.example/objectmodel/laws.FnValidWorks", spec := "fnValidWorks", recurses := true, apart := false }
def FnValidWorksSaid : Prop := fnValidWorksRow.holds Try.pinned (OpenSpec.ofChange fnValidWorksSpec)

/-- ITS FALSE NEIGHBOUR: 'it returns false'. Refute it at one input. -/
def fnValidWorksWrong : ChangeSpec := { name := "fnValidWorks", fn := fun _ => fun
  | [d] => { results := [.lit (.bool false)], args := [d] }
  | _ => none }
def FnValidWorksWrongFalsely : Prop := fnValidWorksRow.holds Try.pinned (OpenSpec.ofChange fnValidWorksWrong)

/-- 'laws.FnExactValidWorks': WHATEVER THE INPUT: true; the input reads as it did. -/
def fnExactValidWorksSpec : ChangeSpec := { name := "fnExactValidWorks", fn := fun _ => fun
  | [d] => { results := [.lit (.bool true)], args := [d] }
  | _ => none }
def fnExactValidWorksRow : OpenClaim := { program := "ytlpchicpbnmdgaa", sum := "e747a46d9d40074c60c7904017216e369974184658f9033cecfa0ce539189c08", func := "loop.example/objectmodel/laws.FnExactValidWorks", spec := "fnExactValidWorks", recurses := true, apart := false }
def FnExactValidWorksSaid : Prop := fnExactValidWorksRow.holds Try.pinned (OpenSpec.ofChange fnExactValidWorksSpec)

/-- ITS FALSE NEIGHBOUR: 'it returns false'. Refute it at one input. -/
def fnExactValidWorksWrong : ChangeSpec := { name := "fnExactValidWorks", fn := fun _ => fun
  | [d] => { results := [.lit (.bool false)], args := [d] }
  | _ => none }
def FnExactValidWorksWrongFalsely : Prop := fnExactValidWorksRow.holds Try.pinned (OpenSpec.ofChange fnExactValidWorksWrong)

/-- 'laws.FnAbstractOf': WHATEVER THE INPUT: true; the input reads as it did. -/
def fnAbstractOfSpec : ChangeSpec := { name := "fnAbstractOf", fn := fun _ => fun
  | [d] => { results := [.lit (.bool true)], args := [d] }
  | _ => none }
def fnAbstractOfRow : OpenClaim := { program := "ytlpchicpbnmdgaa", sum := "e747a46d9d40074c60c7904017216e369974184658f9033cecfa0ce539189c08", func := "loop.example/objectmodel/laws.FnAbstractOf", spec := "fnAbstractOf", recurses := true, apart := false }
def FnAbstractOfSaid : Prop := fnAbstractOfRow.holds Try.pinned (OpenSpec.ofChange fnAbstractOfSpec)

/-- ITS FALSE NEIGHBOUR: 'it returns false'. Refute it at one input. -/
def fnAbstractOfWrong : ChangeSpec := { name := "fnAbstractOf", fn := fun _ => fun
  | [d] => { results := [.lit (.bool false)], args := [d] }
  | _ => none }
def FnAbstractOfWrongFalsely : Prop := fnAbstractOfRow.holds Try.pinned (OpenSpec.ofChange fnAbstractOfWrong)

/-- 'laws.FnExactAbstractOf': WHATEVER THE INPUT: true; the input reads as it did. -/
def fnExactAbstractOfSpec : ChangeSpec := { name := "fnExactAbstractOf", fn := fun _ => fun
  | [d1, d2] => { results := [.lit (.bool true)], args := [d1, d2] }
  | _ => none }
def fnExactAbstractOfRow : OpenClaim := { program := "ytlpchicpbnmdgaa", sum := "e747a46d9d40074c60c7904017216e369974184658f9033cecfa0ce539189c08", func := "loop.example/objectmodel/laws.FnExactAbstractOf", spec := "fnExactAbstractOf", recurses := true, apart := false }
def FnExactAbstractOfSaid : Prop := fnExactAbstractOfRow.holds Try.pinned (OpenSpec.ofChange fnExactAbstractOfSpec)

/-- ITS FALSE NEIGHBOUR: 'it returns false'. Refute it at one input. -/
def fnExactAbstractOfWrong : ChangeSpec := { name := "fnExactAbstractOf", fn := fun _ => fun
  | [d1, d2] => { results := [.lit (.bool false)], args := [d1, d2] }
  | _ => none }
def FnExactAbstractOfWrongFalsely : Prop := fnExactAbstractOfRow.holds Try.pinned (OpenSpec.ofChange fnExactAbstractOfWrong)

/-- 'laws.FnAbstractOfReal': WHATEVER THE INPUT: true; the input reads as it did. -/
def fnAbstractOfRealSpec : ChangeSpec := { name := "fnAbstractOfReal", fn := fun _ => fun
  | [d] => { results := [.lit (.bool true)], args := [d] }
  | _ => none }
def fnAbstractOfRealRow : OpenClaim := { program := "ytlpchicpbnmdgaa", sum := "e747a46d9d40074c60c7904017216e369974184658f9033cecfa0ce539189c08", func := "loop.example/objectmodel/laws.FnAbstractOfReal", spec := "fnAbstractOfReal", recurses := true, apart := false }
def FnAbstractOfRealSaid : Prop := fnAbstractOfRealRow.holds Try.pinned (OpenSpec.ofChange fnAbstractOfRealSpec)

/-- ITS FALSE NEIGHBOUR: 'it returns false'. Refute it at one input. -/
def fnAbstractOfRealWrong : ChangeSpec := { name := "fnAbstractOfReal", fn := fun _ => fun
  | [d] => { results := [.lit (.bool false)], args := [d] }
  | _ => none }
def FnAbstractOfRealWrongFalsely : Prop := fnAbstractOfRealRow.holds Try.pinned (OpenSpec.ofChange fnAbstractOfRealWrong)

/-- 'laws.FnAbstractByBases': WHATEVER THE INPUT: true; the input reads as it did. -/
def fnAbstractByBasesSpec : ChangeSpec := { name := "fnAbstractByBases", fn := fun _ => fun
  | [d] => { results := [.lit (.bool true)], args := [d] }
  | _ => none }
def fnAbstractByBasesRow : OpenClaim := { program := "ytlpchicpbnmdgaa", sum := "e747a46d9d40074c60c7904017216e369974184658f9033cecfa0ce539189c08", func := "loop.example/objectmodel/laws.FnAbstractByBases", spec := "fnAbstractByBases", recurses := true, apart := false }
def FnAbstractByBasesSaid : Prop := fnAbstractByBasesRow.holds Try.pinned (OpenSpec.ofChange fnAbstractByBasesSpec)

/-- ITS FALSE NEIGHBOUR: 'it returns false'. Refute it at one input. -/
def fnAbstractByBasesWrong : ChangeSpec := { name := "fnAbstractByBases", fn := fun _ => fun
  | [d] => { results := [.lit (.bool false)], args := [d] }
  | _ => none }
def FnAbstractByBasesWrongFalsely : Prop := fnAbstractByBasesRow.holds Try.pinned (OpenSpec.ofChange fnAbstractByBasesWrong)

/-- 'laws.FnExactAbstractByBases': WHATEVER THE INPUT: true; the input reads as it did. -/
def fnExactAbstractByBasesSpec : ChangeSpec := { name := "fnExactAbstractByBases", fn := fun _ => fun
  | [d1, d2] => { results := [.lit (.bool true)], args := [d1, d2] }
  | _ => none }
def fnExactAbstractByBasesRow : OpenClaim := { program := "ytlpchicpbnmdgaa", sum := "e747a46d9d40074c60c7904017216e369974184658f9033cecfa0ce539189c08", func := "loop.example/objectmodel/laws.FnExactAbstractByBases", spec := "fnExactAbstractByBases", recurses := true, apart := false }
def FnExactAbstractByBasesSaid : Prop := fnExactAbstractByBasesRow.holds Try.pinned (OpenSpec.ofChange fnExactAbstractByBasesSpec)

/-- ITS FALSE NEIGHBOUR: 'it returns false'. Refute it at one input. -/
def fnExactAbstractByBasesWrong : ChangeSpec := { name := "fnExactAbstractByBases", fn := fun _ => fun
  | [d1, d2] => { results := [.lit (.bool false)], args := [d1, d2] }
  | _ => none }
def FnExactAbstractByBasesWrongFalsely : Prop := fnExactAbstractByBasesRow.holds Try.pinned (OpenSpec.ofChange fnExactAbstractByBasesWrong)

/-- 'laws.FnCanMake': WHATEVER THE INPUT: true; the input reads as it did. -/
def fnCanMakeSpec : ChangeSpec := { name := "fnCanMake", fn := fun _ => fun
  | [d] => { results := [.lit (.bool true)], args := [d] }
  | _ => none }
def fnCanMakeRow : OpenClaim := { program := "ytlpchicpbnmdgaa", sum := "e747a46d9d40074c60c7904017216e369974184658f9033cecfa0ce539189c08", func := "loop.example/objectmodel/laws.FnCanMake", spec := "fnCanMake", recurses := true, apart := false }
def FnCanMakeSaid : Prop := fnCanMakeRow.holds Try.pinned (OpenSpec.ofChange fnCanMakeSpec)

/-- ITS FALSE NEIGHBOUR: 'it returns false'. Refute it at one input. -/
def fnCanMakeWrong : ChangeSpec := { name := "fnCanMake", fn := fun _ => fun
  | [d] => { results := [.lit (.bool false)], args := [d] }
  | _ => none }
def FnCanMakeWrongFalsely : Prop := fnCanMakeRow.holds Try.pinned (OpenSpec.ofChange fnCanMakeWrong)

/-- 'laws.FnExactCanMake': WHATEVER THE INPUT: true; the input reads as it did. -/
def fnExactCanMakeSpec : ChangeSpec := { name := "fnExactCanMake", fn := fun _ => fun
  | [d1, d2] => { results := [.lit (.bool true)], args := [d1, d2] }
  | _ => none }
def fnExactCanMakeRow : OpenClaim := { program := "ytlpchicpbnmdgaa", sum := "e747a46d9d40074c60c7904017216e369974184658f9033cecfa0ce539189c08", func := "loop.example/objectmodel/laws.FnExactCanMake", spec := "fnExactCanMake", recurses := true, apart := false }
def FnExactCanMakeSaid : Prop := fnExactCanMakeRow.holds Try.pinned (OpenSpec.ofChange fnExactCanMakeSpec)

/-- ITS FALSE NEIGHBOUR: 'it returns false'. Refute it at one input. -/
def fnExactCanMakeWrong : ChangeSpec := { name := "fnExactCanMake", fn := fun _ => fun
  | [d1, d2] => { results := [.lit (.bool false)], args := [d1, d2] }
  | _ => none }
def FnExactCanMakeWrongFalsely : Prop := fnExactCanMakeRow.holds Try.pinned (OpenSpec.ofChange fnExactCanMakeWrong)

/-- 'laws.FnValidRegs': WHATEVER THE INPUT: true; the input reads as it did. -/
def fnValidRegsSpec : ChangeSpec := { name := "fnValidRegs", fn := fun _ => fun
  | [d] => { results := [.lit (.bool true)], args := [d] }
  | _ => none }
def fnValidRegsRow : OpenClaim := { program := "ytlpchicpbnmdgaa", sum := "e747a46d9d40074c60c7904017216e369974184658f9033cecfa0ce539189c08", func := "loop.example/objectmodel/laws.FnValidRegs", spec := "fnValidRegs", apart := false }
def FnValidRegsSaid : Prop := fnValidRegsRow.holds Try.pinned (OpenSpec.ofChange fnValidRegsSpec)

/-- ITS FALSE NEIGHBOUR: 'it returns false'. Refute it at one input. -/
def fnValidRegsWrong : ChangeSpec := { name := "fnValidRegs", fn := fun _ => fun
  | [d] => { results := [.lit (.bool false)], args := [d] }
  | _ => none }
def FnValidRegsWrongFalsely : Prop := fnValidRegsRow.holds Try.pinned (OpenSpec.ofChange fnValidRegsWrong)

/-- 'laws.FnExactValidRegs': WHATEVER THE INPUT: true; the input reads as it did. -/
def fnExactValidRegsSpec : ChangeSpec := { name := "fnExactValidRegs", fn := fun _ => fun
  | [d1, d2] => { results := [.lit (.bool true)], args := [d1, d2] }
  | _ => none }
def fnExactValidRegsRow : OpenClaim := { program := "ytlpchicpbnmdgaa", sum := "e747a46d9d40074c60c7904017216e369974184658f9033cecfa0ce539189c08", func := "loop.example/objectmodel/laws.FnExactValidRegs", spec := "fnExactValidRegs", apart := false }
def FnExactValidRegsSaid : Prop := fnExactValidRegsRow.holds Try.pinned (OpenSpec.ofChange fnExactValidRegsSpec)

/-- ITS FALSE NEIGHBOUR: 'it returns false'. Refute it at one input. -/
def fnExactValidRegsWrong : ChangeSpec := { name := "fnExactValidRegs", fn := fun _ => fun
  | [d1, d2] => { results := [.lit (.bool false)], args := [d1, d2] }
  | _ => none }
def FnExactValidRegsWrongFalsely : Prop := fnExactValidRegsRow.holds Try.pinned (OpenSpec.ofChange fnExactValidRegsWrong)

/-- 'laws.FnExactHooksOf': WHATEVER THE INPUT: true; the input reads as it did. -/
def fnExactHooksOfSpec : ChangeSpec := { name := "fnExactHooksOf", fn := fun _ => fun
  | [d1, d2, d3] => { results := [.lit (.bool true)], args := [d1, d2, d3] }
  | _ => none }
def fnExactHooksOfRow : OpenClaim := { program := "ytlpchicpbnmdgaa", sum := "e747a46d9d40074c60c7904017216e369974184658f9033cecfa0ce539189c08", func := "loop.example/objectmodel/laws.FnExactHooksOf", spec := "fnExactHooksOf", recurses := true, apart := false }
def FnExactHooksOfSaid : Prop := fnExactHooksOfRow.holds Try.pinned (OpenSpec.ofChange fnExactHooksOfSpec)

/-- ITS FALSE NEIGHBOUR: 'it returns false'. Refute it at one input. -/
def fnExactHooksOfWrong : ChangeSpec := { name := "fnExactHooksOf", fn := fun _ => fun
  | [d1, d2, d3] => { results := [.lit (.bool false)], args := [d1, d2, d3] }
  | _ => none }
def FnExactHooksOfWrongFalsely : Prop := fnExactHooksOfRow.holds Try.pinned (OpenSpec.ofChange fnExactHooksOfWrong)

/- THE SECOND FORM. 'bulk': how many values and letters a reading holds, each counted each time it is reached (what is shared counts as often as it is met; a slice's spare places count too). A statement '..UptoSaid' is the law's where the arguments, and the package variables that the reading takes, are together of bulk at most 1048576: NARROWER than '..Said'. Prove '..Said' where nothing that the law and all that it calls make is longer than what came in: it says more and counts as full. Else prove '..UptoSaid'. A law counts once. -/
mutual
def uptoBulk {H : Type} : DataW H → Nat
  | .lit (.string bytes) => bytes.length + 1
  | .lit _ => 1
  | .nil => 1
  | .ptr d => uptoBulk d + 1
  | .slice elems spare => uptoBulkAll elems + uptoBulkAll spare + 1
  | .agg parts => uptoBulkAll parts + 1
  | .iface _ d => uptoBulk d + 1
  | .map entries => uptoBulkEntries entries + 1
  | .held _ => 1
def uptoBulkAll {H : Type} : List (DataW H) → Nat
  | [] => 0
  | d :: r => uptoBulk d + uptoBulkAll r
def uptoBulkEntries {H : Type} : List (Lit × DataW H) → Nat
  | [] => 0
  | x :: r => uptoBulkEntry x + uptoBulkEntries r
def uptoBulkEntry {H : Type} : Lit × DataW H → Nat
  | (.string bytes, d) => bytes.length + uptoBulk d + 1
  | (_, d) => uptoBulk d + 1
 end
def uptoSmall : (H : Type) → List (DataW H) → Bool := fun _ ds => decide (uptoBulkAll ds ≤ 1048576)
def OpenSpec.upto (s : _root_.Go.ChangeSpec) : _root_.Go.OpenSpec := { _root_.Go.OpenSpec.ofChange s with cond := some uptoSmall }

/-- 'laws.FnValidWorks', WHERE WHAT IT READS IS OF BULK AT MOST 1048576: true; the input reads as it did. -/
def fnValidWorksUptoRow : OpenClaim := { program := "ytlpchicpbnmdgaa", sum := "e747a46d9d40074c60c7904017216e369974184658f9033cecfa0ce539189c08", func := "loop.example/objectmodel/laws.FnValidWorks", spec := "fnValidWorks", recurses := true, apart := false, narrowed := true }
def FnValidWorksUptoSaid : Prop := fnValidWorksUptoRow.holds Try.pinned (OpenSpec.upto fnValidWorksSpec)

/-- 'laws.FnExactValidWorks', WHERE WHAT IT READS IS OF BULK AT MOST 1048576: true; the input reads as it did. -/
def fnExactValidWorksUptoRow : OpenClaim := { program := "ytlpchicpbnmdgaa", sum := "e747a46d9d40074c60c7904017216e369974184658f9033cecfa0ce539189c08", func := "loop.example/objectmodel/laws.FnExactValidWorks", spec := "fnExactValidWorks", recurses := true, apart := false, narrowed := true }
def FnExactValidWorksUptoSaid : Prop := fnExactValidWorksUptoRow.holds Try.pinned (OpenSpec.upto fnExactValidWorksSpec)

/-- 'laws.FnAbstractOf', WHERE WHAT IT READS IS OF BULK AT MOST 1048576: true; the input reads as it did. -/
def fnAbstractOfUptoRow : OpenClaim := { program := "ytlpchicpbnmdgaa", sum := "e747a46d9d40074c60c7904017216e369974184658f9033cecfa0ce539189c08", func := "loop.example/objectmodel/laws.FnAbstractOf", spec := "fnAbstractOf", recurses := true, apart := false, narrowed := true }
def FnAbstractOfUptoSaid : Prop := fnAbstractOfUptoRow.holds Try.pinned (OpenSpec.upto fnAbstractOfSpec)

/-- 'laws.FnExactAbstractOf', WHERE WHAT IT READS IS OF BULK AT MOST 1048576: true; the input reads as it did. -/
def fnExactAbstractOfUptoRow : OpenClaim := { program := "ytlpchicpbnmdgaa", sum := "e747a46d9d40074c60c7904017216e369974184658f9033cecfa0ce539189c08", func := "loop.example/objectmodel/laws.FnExactAbstractOf", spec := "fnExactAbstractOf", recurses := true, apart := false, narrowed := true }
def FnExactAbstractOfUptoSaid : Prop := fnExactAbstractOfUptoRow.holds Try.pinned (OpenSpec.upto fnExactAbstractOfSpec)

/-- 'laws.FnAbstractOfReal', WHERE WHAT IT READS IS OF BULK AT MOST 1048576: true; the input reads as it did. -/
def fnAbstractOfRealUptoRow : OpenClaim := { program := "ytlpchicpbnmdgaa", sum := "e747a46d9d40074c60c7904017216e369974184658f9033cecfa0ce539189c08", func := "loop.example/objectmodel/laws.FnAbstractOfReal", spec := "fnAbstractOfReal", recurses := true, apart := false, narrowed := true }
def FnAbstractOfRealUptoSaid : Prop := fnAbstractOfRealUptoRow.holds Try.pinned (OpenSpec.upto fnAbstractOfRealSpec)

/-- 'laws.FnAbstractByBases', WHERE WHAT IT READS IS OF BULK AT MOST 1048576: true; the input reads as it did. -/
def fnAbstractByBasesUptoRow : OpenClaim := { program := "ytlpchicpbnmdgaa", sum := "e747a46d9d40074c60c7904017216e369974184658f9033cecfa0ce539189c08", func := "loop.example/objectmodel/laws.FnAbstractByBases", spec := "fnAbstractByBases", recurses := true, apart := false, narrowed := true }
def FnAbstractByBasesUptoSaid : Prop := fnAbstractByBasesUptoRow.holds Try.pinned (OpenSpec.upto fnAbstractByBasesSpec)

/-- 'laws.FnExactAbstractByBases', WHERE WHAT IT READS IS OF BULK AT MOST 1048576: true; the input reads as it did. -/
def fnExactAbstractByBasesUptoRow : OpenClaim := { program := "ytlpchicpbnmdgaa", sum := "e747a46d9d40074c60c7904017216e369974184658f9033cecfa0ce539189c08", func := "loop.example/objectmodel/laws.FnExactAbstractByBases", spec := "fnExactAbstractByBases", recurses := true, apart := false, narrowed := true }
def FnExactAbstractByBasesUptoSaid : Prop := fnExactAbstractByBasesUptoRow.holds Try.pinned (OpenSpec.upto fnExactAbstractByBasesSpec)

/-- 'laws.FnCanMake', WHERE WHAT IT READS IS OF BULK AT MOST 1048576: true; the input reads as it did. -/
def fnCanMakeUptoRow : OpenClaim := { program := "ytlpchicpbnmdgaa", sum := "e747a46d9d40074c60c7904017216e369974184658f9033cecfa0ce539189c08", func := "loop.example/objectmodel/laws.FnCanMake", spec := "fnCanMake", recurses := true, apart := false, narrowed := true }
def FnCanMakeUptoSaid : Prop := fnCanMakeUptoRow.holds Try.pinned (OpenSpec.upto fnCanMakeSpec)

/-- 'laws.FnExactCanMake', WHERE WHAT IT READS IS OF BULK AT MOST 1048576: true; the input reads as it did. -/
def fnExactCanMakeUptoRow : OpenClaim := { program := "ytlpchicpbnmdgaa", sum := "e747a46d9d40074c60c7904017216e369974184658f9033cecfa0ce539189c08", func := "loop.example/objectmodel/laws.FnExactCanMake", spec := "fnExactCanMake", recurses := true, apart := false, narrowed := true }
def FnExactCanMakeUptoSaid : Prop := fnExactCanMakeUptoRow.holds Try.pinned (OpenSpec.upto fnExactCanMakeSpec)

/-- 'laws.FnValidRegs', WHERE WHAT IT READS IS OF BULK AT MOST 1048576: true; the input reads as it did. -/
def fnValidRegsUptoRow : OpenClaim := { program := "ytlpchicpbnmdgaa", sum := "e747a46d9d40074c60c7904017216e369974184658f9033cecfa0ce539189c08", func := "loop.example/objectmodel/laws.FnValidRegs", spec := "fnValidRegs", apart := false, narrowed := true }
def FnValidRegsUptoSaid : Prop := fnValidRegsUptoRow.holds Try.pinned (OpenSpec.upto fnValidRegsSpec)

/-- 'laws.FnExactValidRegs', WHERE WHAT IT READS IS OF BULK AT MOST 1048576: true; the input reads as it did. -/
def fnExactValidRegsUptoRow : OpenClaim := { program := "ytlpchicpbnmdgaa", sum := "e747a46d9d40074c60c7904017216e369974184658f9033cecfa0ce539189c08", func := "loop.example/objectmodel/laws.FnExactValidRegs", spec := "fnExactValidRegs", apart := false, narrowed := true }
def FnExactValidRegsUptoSaid : Prop := fnExactValidRegsUptoRow.holds Try.pinned (OpenSpec.upto fnExactValidRegsSpec)

/-- 'laws.FnExactHooksOf', WHERE WHAT IT READS IS OF BULK AT MOST 1048576: true; the input reads as it did. -/
def fnExactHooksOfUptoRow : OpenClaim := { program := "ytlpchicpbnmdgaa", sum := "e747a46d9d40074c60c7904017216e369974184658f9033cecfa0ce539189c08", func := "loop.example/objectmodel/laws.FnExactHooksOf", spec := "fnExactHooksOf", recurses := true, apart := false, narrowed := true }
def FnExactHooksOfUptoSaid : Prop := fnExactHooksOfUptoRow.holds Try.pinned (OpenSpec.upto fnExactHooksOfSpec)

end Rows
end Go.Proofs.Ytlpchicpbnmdgaa
