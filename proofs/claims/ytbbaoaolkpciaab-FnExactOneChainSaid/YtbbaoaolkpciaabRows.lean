/-
  No cell of these rows narrows 'for every input' (looked for: loops, veiled, ifaces, maps, wideKeys, modest, calm, conditions, laid).
  DERIVED. THE GIVEN ROWS OF THIS SEAT. 6 by the template 'for every input the law returns true; each argument reads behind the call as it read before'; 0 by the template 'total and deterministic' (their statements: YtbbaoaolkpciaabTotals.lean).
  GIVEN WITH THE SEED: the statements are not yours to turn. If you find one false, say at which input.
  Laid BY PROGRAM, IN A SANDBOX (cutbox-rows.mjs): the forced cells as the released guide's own fill.sh prints them over the translation 277914beaa2ff42c… (all of the seat's roots in one cut). By AI agents, Wed Nov 11 2026. No macro, syntax, notation, axiom, sorry.
-/
import Derived.Test.YtbbaoaolkpciaabChecked
import GoSem.Claim
import GoSem.ClaimJoined
import GoSem.ClaimMapViews
import Derived.JoinedTies
import Derived.KernelRfl
namespace Go.Proofs.Ytbbaoaolkpciaab
/- THE CELL 'sum', in the pinned program and in every row, IS THE sha256 OF THE DUMP (.gsa) THAT YtbbaoaolkpciaabProg.lean LOADS. Nothing in Lean hashes anything: it is a label: what it is worth is what the hold of that sum in a sandbox is worth. -/
noncomputable def Try.pinned : Pinned := { name := "ytbbaoaolkpciaab", sum := "277914beaa2ff42c902a29f2702eb1a901449b5a5ea8ec0398ddc26149286645", checked := Try.checked }
namespace Rows
def none {H : Type} : Left H := { results := [], args := [] }

/-- 'laws.FnExactBelowOf': WHATEVER THE INPUT: true; the input reads as it did. -/
def fnExactBelowOfSpec : ChangeSpec := { name := "fnExactBelowOf", fn := fun _ => fun
  | [d1, d2] => { results := [.lit (.bool true)], args := [d1, d2] }
  | _ => none }
def fnExactBelowOfRow : OpenClaim := { program := "ytbbaoaolkpciaab", sum := "277914beaa2ff42c902a29f2702eb1a901449b5a5ea8ec0398ddc26149286645", func := "loop.example/objectmodel/laws.FnExactBelowOf", spec := "fnExactBelowOf", apart := false }
def FnExactBelowOfSaid : Prop := fnExactBelowOfRow.holds Try.pinned (OpenSpec.ofChange fnExactBelowOfSpec)

/-- ITS FALSE NEIGHBOUR: 'it returns false'. Refute it at one input. -/
def fnExactBelowOfWrong : ChangeSpec := { name := "fnExactBelowOf", fn := fun _ => fun
  | [d1, d2] => { results := [.lit (.bool false)], args := [d1, d2] }
  | _ => none }
def FnExactBelowOfWrongFalsely : Prop := fnExactBelowOfRow.holds Try.pinned (OpenSpec.ofChange fnExactBelowOfWrong)

/-- 'laws.FnExactKeepsOrder': WHATEVER THE INPUT: true; the input reads as it did. -/
def fnExactKeepsOrderSpec : ChangeSpec := { name := "fnExactKeepsOrder", fn := fun _ => fun
  | [d1, d2] => { results := [.lit (.bool true)], args := [d1, d2] }
  | _ => none }
def fnExactKeepsOrderRow : OpenClaim := { program := "ytbbaoaolkpciaab", sum := "277914beaa2ff42c902a29f2702eb1a901449b5a5ea8ec0398ddc26149286645", func := "loop.example/objectmodel/laws.FnExactKeepsOrder", spec := "fnExactKeepsOrder", apart := false }
def FnExactKeepsOrderSaid : Prop := fnExactKeepsOrderRow.holds Try.pinned (OpenSpec.ofChange fnExactKeepsOrderSpec)

/-- ITS FALSE NEIGHBOUR: 'it returns false'. Refute it at one input. -/
def fnExactKeepsOrderWrong : ChangeSpec := { name := "fnExactKeepsOrder", fn := fun _ => fun
  | [d1, d2] => { results := [.lit (.bool false)], args := [d1, d2] }
  | _ => none }
def FnExactKeepsOrderWrongFalsely : Prop := fnExactKeepsOrderRow.holds Try.pinned (OpenSpec.ofChange fnExactKeepsOrderWrong)

/-- 'laws.FnExactValidSlots': WHATEVER THE INPUT: true; the input reads as it did. -/
def fnExactValidSlotsSpec : ChangeSpec := { name := "fnExactValidSlots", fn := fun _ => fun
  | [d1, d2] => { results := [.lit (.bool true)], args := [d1, d2] }
  | _ => none }
def fnExactValidSlotsRow : OpenClaim := { program := "ytbbaoaolkpciaab", sum := "277914beaa2ff42c902a29f2702eb1a901449b5a5ea8ec0398ddc26149286645", func := "loop.example/objectmodel/laws.FnExactValidSlots", spec := "fnExactValidSlots", apart := false }
def FnExactValidSlotsSaid : Prop := fnExactValidSlotsRow.holds Try.pinned (OpenSpec.ofChange fnExactValidSlotsSpec)

/-- ITS FALSE NEIGHBOUR: 'it returns false'. Refute it at one input. -/
def fnExactValidSlotsWrong : ChangeSpec := { name := "fnExactValidSlots", fn := fun _ => fun
  | [d1, d2] => { results := [.lit (.bool false)], args := [d1, d2] }
  | _ => none }
def FnExactValidSlotsWrongFalsely : Prop := fnExactValidSlotsRow.holds Try.pinned (OpenSpec.ofChange fnExactValidSlotsWrong)

/-- 'laws.FnExactOneChain': WHATEVER THE INPUT: true; the input reads as it did. -/
def fnExactOneChainSpec : ChangeSpec := { name := "fnExactOneChain", fn := fun _ => fun
  | [d1, d2] => { results := [.lit (.bool true)], args := [d1, d2] }
  | _ => none }
def fnExactOneChainRow : OpenClaim := { program := "ytbbaoaolkpciaab", sum := "277914beaa2ff42c902a29f2702eb1a901449b5a5ea8ec0398ddc26149286645", func := "loop.example/objectmodel/laws.FnExactOneChain", spec := "fnExactOneChain", apart := false }
def FnExactOneChainSaid : Prop := fnExactOneChainRow.holds Try.pinned (OpenSpec.ofChange fnExactOneChainSpec)

/-- ITS FALSE NEIGHBOUR: 'it returns false'. Refute it at one input. -/
def fnExactOneChainWrong : ChangeSpec := { name := "fnExactOneChain", fn := fun _ => fun
  | [d1, d2] => { results := [.lit (.bool false)], args := [d1, d2] }
  | _ => none }
def FnExactOneChainWrongFalsely : Prop := fnExactOneChainRow.holds Try.pinned (OpenSpec.ofChange fnExactOneChainWrong)

/-- 'laws.FnDepthFirst': WHATEVER THE INPUT: true; the input reads as it did. -/
def fnDepthFirstSpec : ChangeSpec := { name := "fnDepthFirst", fn := fun _ => fun
  | [d] => { results := [.lit (.bool true)], args := [d] }
  | _ => none }
def fnDepthFirstRow : OpenClaim := { program := "ytbbaoaolkpciaab", sum := "277914beaa2ff42c902a29f2702eb1a901449b5a5ea8ec0398ddc26149286645", func := "loop.example/objectmodel/laws.FnDepthFirst", spec := "fnDepthFirst", recurses := true, apart := false }
def FnDepthFirstSaid : Prop := fnDepthFirstRow.holds Try.pinned (OpenSpec.ofChange fnDepthFirstSpec)

/-- ITS FALSE NEIGHBOUR: 'it returns false'. Refute it at one input. -/
def fnDepthFirstWrong : ChangeSpec := { name := "fnDepthFirst", fn := fun _ => fun
  | [d] => { results := [.lit (.bool false)], args := [d] }
  | _ => none }
def FnDepthFirstWrongFalsely : Prop := fnDepthFirstRow.holds Try.pinned (OpenSpec.ofChange fnDepthFirstWrong)

/-- 'laws.FnExactDepthFirst': WHATEVER THE INPUT: true; the input reads as it did. -/
def fnExactDepthFirstSpec : ChangeSpec := { name := "fnExactDepthFirst", fn := fun _ => fun
  | [d1, d2] => { results := [.lit (.bool true)], args := [d1, d2] }
  | _ => none }
def fnExactDepthFirstRow : OpenClaim := { program := "ytbbaoaolkpciaab", sum := "277914beaa2ff42c902a29f2702eb1a901449b5a5ea8ec0398ddc26149286645", func := "loop.example/objectmodel/laws.FnExactDepthFirst", spec := "fnExactDepthFirst", recurses := true, apart := false }
def FnExactDepthFirstSaid : Prop := fnExactDepthFirstRow.holds Try.pinned (OpenSpec.ofChange fnExactDepthFirstSpec)

/-- ITS FALSE NEIGHBOUR: 'it returns false'. Refute it at one input. -/
def fnExactDepthFirstWrong : ChangeSpec := { name := "fnExactDepthFirst", fn := fun _ => fun
  | [d1, d2] => { results := [.lit (.bool false)], args := [d1, d2] }
  | _ => none }
def FnExactDepthFirstWrongFalsely : Prop := fnExactDepthFirstRow.holds Try.pinned (OpenSpec.ofChange fnExactDepthFirstWrong)

/- THE SECOND FORM. 'bulk': how many values and letters a reading holds, each counted each time it is reached (what is shared counts as often as it is met; a slice's spare places count too). A statement '..UptoSaid' is the law's where the arguments, and the package variables that the reading takes, are together of bulk at most 1048576: NARROWER than '..Said'. Prove '..Said' where nothing that the law and all that it calls make is longer than what came in: it says more and counts as full. Else prove '..UptoSaid'. A law counts once. -/
mutual
def uptoBulk {H : Type} : DataW H → Nat
  | .lit (.string bytes) => bytes.length + 1
  | .lit _ => 1
  | .nil => 1
  | .ptr d => uptoBulk d + 1
  | .slice elems spare => uptoBulkAll elems + uptoBulkAll spare + 1
  | .agg parts => uptoBulkAll parts + 1
  | .iface _ d => uptoBulk d + 1
  | .map entries => uptoBulkEntries entries + 1
  | .held _ => 1
def uptoBulkAll {H : Type} : List (DataW H) → Nat
  | [] => 0
  | d :: r => uptoBulk d + uptoBulkAll r
def uptoBulkEntries {H : Type} : List (Lit × DataW H) → Nat
  | [] => 0
  | x :: r => uptoBulkEntry x + uptoBulkEntries r
def uptoBulkEntry {H : Type} : Lit × DataW H → Nat
  | (.string bytes, d) => bytes.length + uptoBulk d + 1
  | (_, d) => uptoBulk d + 1
 end
def uptoSmall : (H : Type) → List (DataW H) → Bool := fun _ ds => decide (uptoBulkAll ds ≤ 1048576)
def OpenSpec.upto (s : _root_.Go.ChangeSpec) : _root_.Go.OpenSpec := { _root_.Go.OpenSpec.ofChange s with cond := some uptoSmall }

/-- 'laws.FnExactBelowOf', WHERE WHAT IT READS IS OF BULK AT MOST 1048576: true; the input reads as it did. -/
def fnExactBelowOfUptoRow : OpenClaim := { program := "ytbbaoaolkpciaab", sum := "277914beaa2ff42c902a29f2702eb1a901449b5a5ea8ec0398ddc26149286645", func := "loop.example/objectmodel/laws.FnExactBelowOf", spec := "fnExactBelowOf", apart := false, narrowed := true }
def FnExactBelowOfUptoSaid : Prop := fnExactBelowOfUptoRow.holds Try.pinned (OpenSpec.upto fnExactBelowOfSpec)

/-- 'laws.FnExactKeepsOrder', WHERE WHAT IT READS IS OF BULK AT MOST 1048576: true; the input reads as it did. -/
def fnExactKeepsOrderUptoRow : OpenClaim := { program := "ytbbaoaolkpciaab", sum := "277914beaa2ff42c902a29f2702eb1a901449b5a5ea8ec0398ddc26149286645", func := "loop.example/objectmodel/laws.FnExactKeepsOrder", spec := "fnExactKeepsOrder", apart := false, narrowed := true }
def FnExactKeepsOrderUptoSaid : Prop := fnExactKeepsOrderUptoRow.holds Try.pinned (OpenSpec.upto fnExactKeepsOrderSpec)

/-- 'laws.FnExactValidSlots', WHERE WHAT IT READS IS OF BULK AT MOST 1048576: true; the input reads as it did. -/
def fnExactValidSlotsUptoRow : OpenClaim := { program := "ytbbaoaolkpciaab", sum := "277914beaa2ff42c902a29f2702eb1a901449b5a5ea8ec0398ddc26149286645", func := "loop.example/objectmodel/laws.FnExactValidSlots", spec := "fnExactValidSlots", apart := false, narrowed := true }
def FnExactValidSlotsUptoSaid : Prop := fnExactValidSlotsUptoRow.holds Try.pinned (OpenSpec.upto fnExactValidSlotsSpec)

/-- 'laws.FnExactOneChain', WHERE WHAT IT READS IS OF BULK AT MOST 1048576: true; the input reads as it did. -/
def fnExactOneChainUptoRow : OpenClaim := { program := "ytbbaoaolkpciaab", sum := "277914beaa2ff42c902a29f2702eb1a901449b5a5ea8ec0398ddc26149286645", func := "loop.example/objectmodel/laws.FnExactOneChain", spec := "fnExactOneChain", apart := false, narrowed := true }
def FnExactOneChainUptoSaid : Prop := fnExactOneChainUptoRow.holds Try.pinned (OpenSpec.upto fnExactOneChainSpec)

/-- 'laws.FnDepthFirst', WHERE WHAT IT READS IS OF BULK AT MOST 1048576: true; the input reads as it did. -/
def fnDepthFirstUptoRow : OpenClaim := { program := "ytbbaoaolkpciaab", sum := "277914beaa2ff42c902a29f2702eb1a901449b5a5ea8ec0398ddc26149286645", func := "loop.example/objectmodel/laws.FnDepthFirst", spec := "fnDepthFirst", recurses := true, apart := false, narrowed := true }
def FnDepthFirstUptoSaid : Prop := fnDepthFirstUptoRow.holds Try.pinned (OpenSpec.upto fnDepthFirstSpec)

/-- 'laws.FnExactDepthFirst', WHERE WHAT IT READS IS OF BULK AT MOST 1048576: true; the input reads as it did. -/
def fnExactDepthFirstUptoRow : OpenClaim := { program := "ytbbaoaolkpciaab", sum := "277914beaa2ff42c902a29f2702eb1a901449b5a5ea8ec0398ddc26149286645", func := "loop.example/objectmodel/laws.FnExactDepthFirst", spec := "fnExactDepthFirst", recurses := true, apart := false, narrowed := true }
def FnExactDepthFirstUptoSaid : Prop := fnExactDepthFirstUptoRow.holds Try.pinned (OpenSpec.upto fnExactDepthFirstSpec)

end Rows
end Go.Proofs.Ytbbaoaolkpciaab
