/-
  No cell of these rows narrows 'for every input' (looked for: loops, veiled, ifaces, maps, wideKeys, modest, calm, conditions, laid).
  DERIVED. THE GIVEN ROWS OF THIS SEAT. 6 by the template 'for every input the law returns true; each argument reads behind the call as it read before'; 0 by the template 'total and deterministic' (their statements: YtbbaoaolkpciaaaTotals.lean).
  GIVEN WITH THE SEED: the statements are not yours to turn. If you find one false, say at which input.
  Laid BY PROGRAM, IN A SANDBOX (cutbox-rows.mjs): the forced cells as the released guide's own fill.sh prints them over the translation 58952e0b341e1657… (all of the seat's roots in one cut). By AI agents, Wed Nov 11 2026. No macro, syntax, notation, axiom, sorry.
-/
import Derived.Test.YtbbaoaolkpciaaaChecked
import GoSem.Claim
import GoSem.ClaimJoined
import GoSem.ClaimMapViews
import Derived.JoinedTies
import Derived.KernelRfl
namespace Go.Proofs.Ytbbaoaolkpciaaa
/- THE CELL 'sum', in the pinned program and in every row, IS THE sha256 OF THE DUMP (.gsa) THAT YtbbaoaolkpciaaaProg.lean LOADS. Nothing in Lean hashes anything: it is a label: what it is worth is what the hold of that sum in a sandbox is worth. -/
noncomputable def Try.pinned : Pinned := { name := "ytbbaoaolkpciaaa", sum := "58952e0b341e1657a5a3784a166a80a14e70e57e84370161981ee4262559bed4", checked := Try.checked }
namespace Rows
def none {H : Type} : Left H := { results := [], args := [] }

/-- 'laws.FnValidBases': WHATEVER THE INPUT: true; the input reads as it did. -/
def fnValidBasesSpec : ChangeSpec := { name := "fnValidBases", fn := fun _ => fun
  | [d] => { results := [.lit (.bool true)], args := [d] }
  | _ => none }
def fnValidBasesRow : OpenClaim := { program := "ytbbaoaolkpciaaa", sum := "58952e0b341e1657a5a3784a166a80a14e70e57e84370161981ee4262559bed4", func := "loop.example/objectmodel/laws.FnValidBases", spec := "fnValidBases", apart := false }
def FnValidBasesSaid : Prop := fnValidBasesRow.holds Try.pinned (OpenSpec.ofChange fnValidBasesSpec)

/-- ITS FALSE NEIGHBOUR: 'it returns false'. Refute it at one input. -/
def fnValidBasesWrong : ChangeSpec := { name := "fnValidBases", fn := fun _ => fun
  | [d] => { results := [.lit (.bool false)], args := [d] }
  | _ => none }
def FnValidBasesWrongFalsely : Prop := fnValidBasesRow.holds Try.pinned (OpenSpec.ofChange fnValidBasesWrong)

/-- 'laws.FnAboveOf': WHATEVER THE INPUT: true; the input reads as it did. -/
def fnAboveOfSpec : ChangeSpec := { name := "fnAboveOf", fn := fun _ => fun
  | [d] => { results := [.lit (.bool true)], args := [d] }
  | _ => none }
def fnAboveOfRow : OpenClaim := { program := "ytbbaoaolkpciaaa", sum := "58952e0b341e1657a5a3784a166a80a14e70e57e84370161981ee4262559bed4", func := "loop.example/objectmodel/laws.FnAboveOf", spec := "fnAboveOf", apart := false }
def FnAboveOfSaid : Prop := fnAboveOfRow.holds Try.pinned (OpenSpec.ofChange fnAboveOfSpec)

/-- ITS FALSE NEIGHBOUR: 'it returns false'. Refute it at one input. -/
def fnAboveOfWrong : ChangeSpec := { name := "fnAboveOf", fn := fun _ => fun
  | [d] => { results := [.lit (.bool false)], args := [d] }
  | _ => none }
def FnAboveOfWrongFalsely : Prop := fnAboveOfRow.holds Try.pinned (OpenSpec.ofChange fnAboveOfWrong)

/-- 'laws.FnBelowOf': WHATEVER THE INPUT: true; the input reads as it did. -/
def fnBelowOfSpec : ChangeSpec := { name := "fnBelowOf", fn := fun _ => fun
  | [d] => { results := [.lit (.bool true)], args := [d] }
  | _ => none }
def fnBelowOfRow : OpenClaim := { program := "ytbbaoaolkpciaaa", sum := "58952e0b341e1657a5a3784a166a80a14e70e57e84370161981ee4262559bed4", func := "loop.example/objectmodel/laws.FnBelowOf", spec := "fnBelowOf", apart := false }
def FnBelowOfSaid : Prop := fnBelowOfRow.holds Try.pinned (OpenSpec.ofChange fnBelowOfSpec)

/-- ITS FALSE NEIGHBOUR: 'it returns false'. Refute it at one input. -/
def fnBelowOfWrong : ChangeSpec := { name := "fnBelowOf", fn := fun _ => fun
  | [d] => { results := [.lit (.bool false)], args := [d] }
  | _ => none }
def FnBelowOfWrongFalsely : Prop := fnBelowOfRow.holds Try.pinned (OpenSpec.ofChange fnBelowOfWrong)

/-- 'laws.FnValidSlots': WHATEVER THE INPUT: true; the input reads as it did. -/
def fnValidSlotsSpec : ChangeSpec := { name := "fnValidSlots", fn := fun _ => fun
  | [d] => { results := [.lit (.bool true)], args := [d] }
  | _ => none }
def fnValidSlotsRow : OpenClaim := { program := "ytbbaoaolkpciaaa", sum := "58952e0b341e1657a5a3784a166a80a14e70e57e84370161981ee4262559bed4", func := "loop.example/objectmodel/laws.FnValidSlots", spec := "fnValidSlots", apart := false }
def FnValidSlotsSaid : Prop := fnValidSlotsRow.holds Try.pinned (OpenSpec.ofChange fnValidSlotsSpec)

/-- ITS FALSE NEIGHBOUR: 'it returns false'. Refute it at one input. -/
def fnValidSlotsWrong : ChangeSpec := { name := "fnValidSlots", fn := fun _ => fun
  | [d] => { results := [.lit (.bool false)], args := [d] }
  | _ => none }
def FnValidSlotsWrongFalsely : Prop := fnValidSlotsRow.holds Try.pinned (OpenSpec.ofChange fnValidSlotsWrong)

/-- 'laws.FnExactValidBases': WHATEVER THE INPUT: true; the input reads as it did. -/
def fnExactValidBasesSpec : ChangeSpec := { name := "fnExactValidBases", fn := fun _ => fun
  | [d] => { results := [.lit (.bool true)], args := [d] }
  | _ => none }
def fnExactValidBasesRow : OpenClaim := { program := "ytbbaoaolkpciaaa", sum := "58952e0b341e1657a5a3784a166a80a14e70e57e84370161981ee4262559bed4", func := "loop.example/objectmodel/laws.FnExactValidBases", spec := "fnExactValidBases", apart := false }
def FnExactValidBasesSaid : Prop := fnExactValidBasesRow.holds Try.pinned (OpenSpec.ofChange fnExactValidBasesSpec)

/-- ITS FALSE NEIGHBOUR: 'it returns false'. Refute it at one input. -/
def fnExactValidBasesWrong : ChangeSpec := { name := "fnExactValidBases", fn := fun _ => fun
  | [d] => { results := [.lit (.bool false)], args := [d] }
  | _ => none }
def FnExactValidBasesWrongFalsely : Prop := fnExactValidBasesRow.holds Try.pinned (OpenSpec.ofChange fnExactValidBasesWrong)

/-- 'laws.FnExactAboveOf': WHATEVER THE INPUT: true; the input reads as it did. -/
def fnExactAboveOfSpec : ChangeSpec := { name := "fnExactAboveOf", fn := fun _ => fun
  | [d1, d2] => { results := [.lit (.bool true)], args := [d1, d2] }
  | _ => none }
def fnExactAboveOfRow : OpenClaim := { program := "ytbbaoaolkpciaaa", sum := "58952e0b341e1657a5a3784a166a80a14e70e57e84370161981ee4262559bed4", func := "loop.example/objectmodel/laws.FnExactAboveOf", spec := "fnExactAboveOf", apart := false }
def FnExactAboveOfSaid : Prop := fnExactAboveOfRow.holds Try.pinned (OpenSpec.ofChange fnExactAboveOfSpec)

/-- ITS FALSE NEIGHBOUR: 'it returns false'. Refute it at one input. -/
def fnExactAboveOfWrong : ChangeSpec := { name := "fnExactAboveOf", fn := fun _ => fun
  | [d1, d2] => { results := [.lit (.bool false)], args := [d1, d2] }
  | _ => none }
def FnExactAboveOfWrongFalsely : Prop := fnExactAboveOfRow.holds Try.pinned (OpenSpec.ofChange fnExactAboveOfWrong)

/- THE SECOND FORM. 'bulk': how many values and letters a reading holds, each counted each time it is reached (what is shared counts as often as it is met; a slice's spare places count too). A statement '..UptoSaid' is the law's where the arguments, and the package variables that the reading takes, are together of bulk at most 1048576: NARROWER than '..Said'. Prove '..Said' where nothing that the law and all that it calls make is longer than what came in: it says more and counts as full. Else prove '..UptoSaid'. A law counts once. -/
mutual
def uptoBulk {H : Type} : DataW H → Nat
  | .lit (.string bytes) => bytes.length + 1
  | .lit _ => 1
  | .nil => 1
  | .ptr d => uptoBulk d + 1
  | .slice elems spare => uptoBulkAll elems + uptoBulkAll spare + 1
  | .agg parts => uptoBulkAll parts + 1
  | .iface _ d => uptoBulk d + 1
  | .map entries => uptoBulkEntries entries + 1
  | .held _ => 1
def uptoBulkAll {H : Type} : List (DataW H) → Nat
  | [] => 0
  | d :: r => uptoBulk d + uptoBulkAll r
def uptoBulkEntries {H : Type} : List (Lit × DataW H) → Nat
  | [] => 0
  | x :: r => uptoBulkEntry x + uptoBulkEntries r
def uptoBulkEntry {H : Type} : Lit × DataW H → Nat
  | (.string bytes, d) => bytes.length + uptoBulk d + 1
  | (_, d) => uptoBulk d + 1
 end
def uptoSmall : (H : Type) → List (DataW H) → Bool := fun _ ds => decide (uptoBulkAll ds ≤ 1048576)
def OpenSpec.upto (s : _root_.Go.ChangeSpec) : _root_.Go.OpenSpec := { _root_.Go.OpenSpec.ofChange s with cond := some uptoSmall }

/-- 'laws.FnValidBases', WHERE WHAT IT READS IS OF BULK AT MOST 1048576: true; the input reads as it did. -/
def fnValidBasesUptoRow : OpenClaim := { program := "ytbbaoaolkpciaaa", sum := "58952e0b341e1657a5a3784a166a80a14e70e57e84370161981ee4262559bed4", func := "loop.example/objectmodel/laws.FnValidBases", spec := "fnValidBases", apart := false, narrowed := true }
def FnValidBasesUptoSaid : Prop := fnValidBasesUptoRow.holds Try.pinned (OpenSpec.upto fnValidBasesSpec)

/-- 'laws.FnAboveOf', WHERE WHAT IT READS IS OF BULK AT MOST 1048576: true; the input reads as it did. -/
def fnAboveOfUptoRow : OpenClaim := { program := "ytbbaoaolkpciaaa", sum := "58952e0b341e1657a5a3784a166a80a14e70e57e84370161981ee4262559bed4", func := "loop.example/objectmodel/laws.FnAboveOf", spec := "fnAboveOf", apart := false, narrowed := true }
def FnAboveOfUptoSaid : Prop := fnAboveOfUptoRow.holds Try.pinned (OpenSpec.upto fnAboveOfSpec)

/-- 'laws.FnBelowOf', WHERE WHAT IT READS IS OF BULK AT MOST 1048576: true; the input reads as it did. -/
def fnBelowOfUptoRow : OpenClaim := { program := "ytbbaoaolkpciaaa", sum := "58952e0b341e1657a5a3784a166a80a14e70e57e84370161981ee4262559bed4", func := "loop.example/objectmodel/laws.FnBelowOf", spec := "fnBelowOf", apart := false, narrowed := true }
def FnBelowOfUptoSaid : Prop := fnBelowOfUptoRow.holds Try.pinned (OpenSpec.upto fnBelowOfSpec)

/-- 'laws.FnValidSlots', WHERE WHAT IT READS IS OF BULK AT MOST 1048576: true; the input reads as it did. -/
def fnValidSlotsUptoRow : OpenClaim := { program := "ytbbaoaolkpciaaa", sum := "58952e0b341e1657a5a3784a166a80a14e70e57e84370161981ee4262559bed4", func := "loop.example/objectmodel/laws.FnValidSlots", spec := "fnValidSlots", apart := false, narrowed := true }
def FnValidSlotsUptoSaid : Prop := fnValidSlotsUptoRow.holds Try.pinned (OpenSpec.upto fnValidSlotsSpec)

/-- 'laws.FnExactValidBases', WHERE WHAT IT READS IS OF BULK AT MOST 1048576: true; the input reads as it did. -/
def fnExactValidBasesUptoRow : OpenClaim := { program := "ytbbaoaolkpciaaa", sum := "58952e0b341e1657a5a3784a166a80a14e70e57e84370161981ee4262559bed4", func := "loop.example/objectmodel/laws.FnExactValidBases", spec := "fnExactValidBases", apart := false, narrowed := true }
def FnExactValidBasesUptoSaid : Prop := fnExactValidBasesUptoRow.holds Try.pinned (OpenSpec.upto fnExactValidBasesSpec)

/-- 'laws.FnExactAboveOf', WHERE WHAT IT READS IS OF BULK AT MOST 1048576: true; the input reads as it did. -/
def fnExactAboveOfUptoRow : OpenClaim := { program := "ytbbaoaolkpciaaa", sum := "58952e0b341e1657a5a3784a166a80a14e70e57e84370161981ee4262559bed4", func := "loop.example/objectmodel/laws.FnExactAboveOf", spec := "fnExactAboveOf", apart := false, narrowed := true }
def FnExactAboveOfUptoSaid : Prop := fnExactAboveOfUptoRow.holds Try.pinned (OpenSpec.upto fnExactAboveOfSpec)

end Rows
end Go.Proofs.Ytbbaoaolkpciaaa
