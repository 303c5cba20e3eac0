/-
  No cell of these rows narrows 'for every input' (looked for: loops, veiled, ifaces, maps, wideKeys, modest, calm, conditions, laid).
  DERIVED. THE GIVEN ROWS OF THIS SEAT. 12 by the template 'for every input the law returns true; each argument reads behind the call as it read before'; 0 by the template 'total and deterministic' (their statements: YtlpchicpbnmdgacTotals.lean).
  GIVEN WITH THE SEED: the statements are not yours to turn. If you find one false, say at which input.
  Laid BY PROGRAM, IN A SANDBOX (cutbox-rows.mjs): the forced cells as the released guide's own fill.sh prints them over the translation 4bf1bc7d0a137058… (all of the seat's roots in one cut). By AI agents, Wed Nov 11 2026. No macro, syntax, notation, axiom, sorry.
-/
import Derived.Test.YtlpchicpbnmdgacChecked
import GoSem.Claim
import GoSem.ClaimJoined
import GoSem.ClaimMapViews
import Derived.JoinedTies
import Derived.KernelRfl
namespace Go.Proofs.Ytlpchicpbnmdgac
/- THE CELL 'sum', in the pinned program and in every row, IS THE sha256 OF THE DUMP (.gsa) THAT YtlpchicpbnmdgacProg.lean LOADS. Nothing in Lean hashes anything: it is a label: what it is worth is what the hold of that sum in a sandbox is worth. -/
noncomputable def Try.pinned : Pinned := { name := "ytlpchicpbnmdgac", sum := "4bf1bc7d0a13705840189108ccda416d0d7032779690e5f1b665e8da40a49151", checked := Try.checked }
namespace Rows
def none {H : Type} : Left H := { results := [], args := [] }

/-- 'laws.FnMetaWinner': WHATEVER THE INPUT: true; the input reads as it did. -/
def fnMetaWinnerSpec : ChangeSpec := { name := "fnMetaWinner", fn := fun _ => fun
  | [d] => { results := [.lit (.bool true)], args := [d] }
  | _ => none }
def fnMetaWinnerRow : OpenClaim := { program := "ytlpchicpbnmdgac", sum := "4bf1bc7d0a13705840189108ccda416d0d7032779690e5f1b665e8da40a49151", func := "loop.example/objectmodel/laws.FnMetaWinner", spec := "fnMetaWinner", unfollowed := true, recurses := true, apart := false }
def FnMetaWinnerSaid : Prop := fnMetaWinnerRow.holds Try.pinned (OpenSpec.ofChange fnMetaWinnerSpec)

/-- ITS FALSE NEIGHBOUR: 'it returns false'. Refute it at one input. -/
def fnMetaWinnerWrong : ChangeSpec := { name := "fnMetaWinner", fn := fun _ => fun
  | [d] => { results := [.lit (.bool false)], args := [d] }
  | _ => none }
def FnMetaWinnerWrongFalsely : Prop := fnMetaWinnerRow.holds Try.pinned (OpenSpec.ofChange fnMetaWinnerWrong)

/-- 'laws.FnMetaWinnerNone': WHATEVER THE INPUT: true; the input reads as it did. -/
def fnMetaWinnerNoneSpec : ChangeSpec := { name := "fnMetaWinnerNone", fn := fun _ => fun
  | [d] => { results := [.lit (.bool true)], args := [d] }
  | _ => none }
def fnMetaWinnerNoneRow : OpenClaim := { program := "ytlpchicpbnmdgac", sum := "4bf1bc7d0a13705840189108ccda416d0d7032779690e5f1b665e8da40a49151", func := "loop.example/objectmodel/laws.FnMetaWinnerNone", spec := "fnMetaWinnerNone", unfollowed := true, recurses := true, apart := false }
def FnMetaWinnerNoneSaid : Prop := fnMetaWinnerNoneRow.holds Try.pinned (OpenSpec.ofChange fnMetaWinnerNoneSpec)

/-- ITS FALSE NEIGHBOUR: 'it returns false'. Refute it at one input. -/
def fnMetaWinnerNoneWrong : ChangeSpec := { name := "fnMetaWinnerNone", fn := fun _ => fun
  | [d] => { results := [.lit (.bool false)], args := [d] }
  | _ => none }
def FnMetaWinnerNoneWrongFalsely : Prop := fnMetaWinnerNoneRow.holds Try.pinned (OpenSpec.ofChange fnMetaWinnerNoneWrong)

/-- 'laws.FnExactMetaWinner': WHATEVER THE INPUT: true; the input reads as it did. -/
def fnExactMetaWinnerSpec : ChangeSpec := { name := "fnExactMetaWinner", fn := fun _ => fun
  | [d1, d2] => { results := [.lit (.bool true)], args := [d1, d2] }
  | _ => none }
def fnExactMetaWinnerRow : OpenClaim := { program := "ytlpchicpbnmdgac", sum := "4bf1bc7d0a13705840189108ccda416d0d7032779690e5f1b665e8da40a49151", func := "loop.example/objectmodel/laws.FnExactMetaWinner", spec := "fnExactMetaWinner", unfollowed := true, recurses := true, apart := false }
def FnExactMetaWinnerSaid : Prop := fnExactMetaWinnerRow.holds Try.pinned (OpenSpec.ofChange fnExactMetaWinnerSpec)

/-- ITS FALSE NEIGHBOUR: 'it returns false'. Refute it at one input. -/
def fnExactMetaWinnerWrong : ChangeSpec := { name := "fnExactMetaWinner", fn := fun _ => fun
  | [d1, d2] => { results := [.lit (.bool false)], args := [d1, d2] }
  | _ => none }
def FnExactMetaWinnerWrongFalsely : Prop := fnExactMetaWinnerRow.holds Try.pinned (OpenSpec.ofChange fnExactMetaWinnerWrong)

/-- 'laws.FnMetasOf': WHATEVER THE INPUT: true; the input reads as it did. -/
def fnMetasOfSpec : ChangeSpec := { name := "fnMetasOf", fn := fun _ => fun
  | [d] => { results := [.lit (.bool true)], args := [d] }
  | _ => none }
def fnMetasOfRow : OpenClaim := { program := "ytlpchicpbnmdgac", sum := "4bf1bc7d0a13705840189108ccda416d0d7032779690e5f1b665e8da40a49151", func := "loop.example/objectmodel/laws.FnMetasOf", spec := "fnMetasOf", unfollowed := true, recurses := true, apart := false }
def FnMetasOfSaid : Prop := fnMetasOfRow.holds Try.pinned (OpenSpec.ofChange fnMetasOfSpec)

/-- ITS FALSE NEIGHBOUR: 'it returns false'. Refute it at one input. -/
def fnMetasOfWrong : ChangeSpec := { name := "fnMetasOf", fn := fun _ => fun
  | [d] => { results := [.lit (.bool false)], args := [d] }
  | _ => none }
def FnMetasOfWrongFalsely : Prop := fnMetasOfRow.holds Try.pinned (OpenSpec.ofChange fnMetasOfWrong)

/-- 'laws.FnMetasOfLine': WHATEVER THE INPUT: true; the input reads as it did. -/
def fnMetasOfLineSpec : ChangeSpec := { name := "fnMetasOfLine", fn := fun _ => fun
  | [d] => { results := [.lit (.bool true)], args := [d] }
  | _ => none }
def fnMetasOfLineRow : OpenClaim := { program := "ytlpchicpbnmdgac", sum := "4bf1bc7d0a13705840189108ccda416d0d7032779690e5f1b665e8da40a49151", func := "loop.example/objectmodel/laws.FnMetasOfLine", spec := "fnMetasOfLine", unfollowed := true, recurses := true, apart := false }
def FnMetasOfLineSaid : Prop := fnMetasOfLineRow.holds Try.pinned (OpenSpec.ofChange fnMetasOfLineSpec)

/-- ITS FALSE NEIGHBOUR: 'it returns false'. Refute it at one input. -/
def fnMetasOfLineWrong : ChangeSpec := { name := "fnMetasOfLine", fn := fun _ => fun
  | [d] => { results := [.lit (.bool false)], args := [d] }
  | _ => none }
def FnMetasOfLineWrongFalsely : Prop := fnMetasOfLineRow.holds Try.pinned (OpenSpec.ofChange fnMetasOfLineWrong)

/-- 'laws.FnExactMetasOf': WHATEVER THE INPUT: true; the input reads as it did. -/
def fnExactMetasOfSpec : ChangeSpec := { name := "fnExactMetasOf", fn := fun _ => fun
  | [d1, d2, d3] => { results := [.lit (.bool true)], args := [d1, d2, d3] }
  | _ => none }
def fnExactMetasOfRow : OpenClaim := { program := "ytlpchicpbnmdgac", sum := "4bf1bc7d0a13705840189108ccda416d0d7032779690e5f1b665e8da40a49151", func := "loop.example/objectmodel/laws.FnExactMetasOf", spec := "fnExactMetasOf", unfollowed := true, recurses := true, apart := false }
def FnExactMetasOfSaid : Prop := fnExactMetasOfRow.holds Try.pinned (OpenSpec.ofChange fnExactMetasOfSpec)

/-- ITS FALSE NEIGHBOUR: 'it returns false'. Refute it at one input. -/
def fnExactMetasOfWrong : ChangeSpec := { name := "fnExactMetasOf", fn := fun _ => fun
  | [d1, d2, d3] => { results := [.lit (.bool false)], args := [d1, d2, d3] }
  | _ => none }
def FnExactMetasOfWrongFalsely : Prop := fnExactMetasOfRow.holds Try.pinned (OpenSpec.ofChange fnExactMetasOfWrong)

/-- 'laws.FnSupersOf': WHATEVER THE INPUT: true; the input reads as it did. -/
def fnSupersOfSpec : ChangeSpec := { name := "fnSupersOf", fn := fun _ => fun
  | [d] => { results := [.lit (.bool true)], args := [d] }
  | _ => none }
def fnSupersOfRow : OpenClaim := { program := "ytlpchicpbnmdgac", sum := "4bf1bc7d0a13705840189108ccda416d0d7032779690e5f1b665e8da40a49151", func := "loop.example/objectmodel/laws.FnSupersOf", spec := "fnSupersOf", unfollowed := true, recurses := true, apart := false }
def FnSupersOfSaid : Prop := fnSupersOfRow.holds Try.pinned (OpenSpec.ofChange fnSupersOfSpec)

/-- ITS FALSE NEIGHBOUR: 'it returns false'. Refute it at one input. -/
def fnSupersOfWrong : ChangeSpec := { name := "fnSupersOf", fn := fun _ => fun
  | [d] => { results := [.lit (.bool false)], args := [d] }
  | _ => none }
def FnSupersOfWrongFalsely : Prop := fnSupersOfRow.holds Try.pinned (OpenSpec.ofChange fnSupersOfWrong)

/-- 'laws.FnExactSupersOf': WHATEVER THE INPUT: true; the input reads as it did. -/
def fnExactSupersOfSpec : ChangeSpec := { name := "fnExactSupersOf", fn := fun _ => fun
  | [d1, d2, d3] => { results := [.lit (.bool true)], args := [d1, d2, d3] }
  | _ => none }
def fnExactSupersOfRow : OpenClaim := { program := "ytlpchicpbnmdgac", sum := "4bf1bc7d0a13705840189108ccda416d0d7032779690e5f1b665e8da40a49151", func := "loop.example/objectmodel/laws.FnExactSupersOf", spec := "fnExactSupersOf", unfollowed := true, recurses := true, apart := false }
def FnExactSupersOfSaid : Prop := fnExactSupersOfRow.holds Try.pinned (OpenSpec.ofChange fnExactSupersOfSpec)

/-- ITS FALSE NEIGHBOUR: 'it returns false'. Refute it at one input. -/
def fnExactSupersOfWrong : ChangeSpec := { name := "fnExactSupersOf", fn := fun _ => fun
  | [d1, d2, d3] => { results := [.lit (.bool false)], args := [d1, d2, d3] }
  | _ => none }
def FnExactSupersOfWrongFalsely : Prop := fnExactSupersOfRow.holds Try.pinned (OpenSpec.ofChange fnExactSupersOfWrong)

/-- 'laws.FnIsSub': WHATEVER THE INPUT: true; the input reads as it did. -/
def fnIsSubSpec : ChangeSpec := { name := "fnIsSub", fn := fun _ => fun
  | [d] => { results := [.lit (.bool true)], args := [d] }
  | _ => none }
def fnIsSubRow : OpenClaim := { program := "ytlpchicpbnmdgac", sum := "4bf1bc7d0a13705840189108ccda416d0d7032779690e5f1b665e8da40a49151", func := "loop.example/objectmodel/laws.FnIsSub", spec := "fnIsSub", unfollowed := true, recurses := true, apart := false }
def FnIsSubSaid : Prop := fnIsSubRow.holds Try.pinned (OpenSpec.ofChange fnIsSubSpec)

/-- ITS FALSE NEIGHBOUR: 'it returns false'. Refute it at one input. -/
def fnIsSubWrong : ChangeSpec := { name := "fnIsSub", fn := fun _ => fun
  | [d] => { results := [.lit (.bool false)], args := [d] }
  | _ => none }
def FnIsSubWrongFalsely : Prop := fnIsSubRow.holds Try.pinned (OpenSpec.ofChange fnIsSubWrong)

/-- 'laws.FnExactIsSub': WHATEVER THE INPUT: true; the input reads as it did. -/
def fnExactIsSubSpec : ChangeSpec := { name := "fnExactIsSub", fn := fun _ => fun
  | [d1, d2, d3, d4] => { results := [.lit (.bool true)], args := [d1, d2, d3, d4] }
  | _ => none }
def fnExactIsSubRow : OpenClaim := { program := "ytlpchicpbnmdgac", sum := "4bf1bc7d0a13705840189108ccda416d0d7032779690e5f1b665e8da40a49151", func := "loop.example/objectmodel/laws.FnExactIsSub", spec := "fnExactIsSub", unfollowed := true, recurses := true, apart := false }
def FnExactIsSubSaid : Prop := fnExactIsSubRow.holds Try.pinned (OpenSpec.ofChange fnExactIsSubSpec)

/-- ITS FALSE NEIGHBOUR: 'it returns false'. Refute it at one input. -/
def fnExactIsSubWrong : ChangeSpec := { name := "fnExactIsSub", fn := fun _ => fun
  | [d1, d2, d3, d4] => { results := [.lit (.bool false)], args := [d1, d2, d3, d4] }
  | _ => none }
def FnExactIsSubWrongFalsely : Prop := fnExactIsSubRow.holds Try.pinned (OpenSpec.ofChange fnExactIsSubWrong)

/-- 'laws.FnRegister': WHATEVER THE INPUT: true; the input reads as it did. -/
def fnRegisterSpec : ChangeSpec := { name := "fnRegister", fn := fun _ => fun
  | [d] => { results := [.lit (.bool true)], args := [d] }
  | _ => none }
def fnRegisterRow : OpenClaim := { program := "ytlpchicpbnmdgac", sum := "4bf1bc7d0a13705840189108ccda416d0d7032779690e5f1b665e8da40a49151", func := "loop.example/objectmodel/laws.FnRegister", spec := "fnRegister", unfollowed := true, recurses := true, apart := false }
def FnRegisterSaid : Prop := fnRegisterRow.holds Try.pinned (OpenSpec.ofChange fnRegisterSpec)

/-- ITS FALSE NEIGHBOUR: 'it returns false'. Refute it at one input. -/
def fnRegisterWrong : ChangeSpec := { name := "fnRegister", fn := fun _ => fun
  | [d] => { results := [.lit (.bool false)], args := [d] }
  | _ => none }
def FnRegisterWrongFalsely : Prop := fnRegisterRow.holds Try.pinned (OpenSpec.ofChange fnRegisterWrong)

/-- 'laws.FnExactRegister': WHATEVER THE INPUT: true; the input reads as it did. -/
def fnExactRegisterSpec : ChangeSpec := { name := "fnExactRegister", fn := fun _ => fun
  | [d1, d2, d3, d4] => { results := [.lit (.bool true)], args := [d1, d2, d3, d4] }
  | _ => none }
def fnExactRegisterRow : OpenClaim := { program := "ytlpchicpbnmdgac", sum := "4bf1bc7d0a13705840189108ccda416d0d7032779690e5f1b665e8da40a49151", func := "loop.example/objectmodel/laws.FnExactRegister", spec := "fnExactRegister", unfollowed := true, recurses := true, apart := false }
def FnExactRegisterSaid : Prop := fnExactRegisterRow.holds Try.pinned (OpenSpec.ofChange fnExactRegisterSpec)

/-- ITS FALSE NEIGHBOUR: 'it returns false'. Refute it at one input. -/
def fnExactRegisterWrong : ChangeSpec := { name := "fnExactRegister", fn := fun _ => fun
  | [d1, d2, d3, d4] => { results := [.lit (.bool false)], args := [d1, d2, d3, d4] }
  | _ => none }
def FnExactRegisterWrongFalsely : Prop := fnExactRegisterRow.holds Try.pinned (OpenSpec.ofChange fnExactRegisterWrong)

/- THE SECOND FORM. 'bulk': how many values and letters a reading holds, each counted each time it is reached (what is shared counts as often as it is met; a slice's spare places count too). A statement '..UptoSaid' is the law's where the arguments, and the package variables that the reading takes, are together of bulk at most 1048576: NARROWER than '..Said'. Prove '..Said' where nothing that the law and all that it calls make is longer than what came in: it says more and counts as full. Else prove '..UptoSaid'. A law counts once. -/
mutual
def uptoBulk {H : Type} : DataW H → Nat
  | .lit (.string bytes) => bytes.length + 1
  | .lit _ => 1
  | .nil => 1
  | .ptr d => uptoBulk d + 1
  | .slice elems spare => uptoBulkAll elems + uptoBulkAll spare + 1
  | .agg parts => uptoBulkAll parts + 1
  | .iface _ d => uptoBulk d + 1
  | .map entries => uptoBulkEntries entries + 1
  | .held _ => 1
def uptoBulkAll {H : Type} : List (DataW H) → Nat
  | [] => 0
  | d :: r => uptoBulk d + uptoBulkAll r
def uptoBulkEntries {H : Type} : List (Lit × DataW H) → Nat
  | [] => 0
  | x :: r => uptoBulkEntry x + uptoBulkEntries r
def uptoBulkEntry {H : Type} : Lit × DataW H → Nat
  | (.string bytes, d) => bytes.length + uptoBulk d + 1
  | (_, d) => uptoBulk d + 1
 end
def uptoSmall : (H : Type) → List (DataW H) → Bool := fun _ ds => decide (uptoBulkAll ds ≤ 1048576)
def OpenSpec.upto (s : _root_.Go.ChangeSpec) : _root_.Go.OpenSpec := { _root_.Go.OpenSpec.ofChange s with cond := some uptoSmall }

/-- 'laws.FnMetaWinner', WHERE WHAT IT READS IS OF BULK AT MOST 1048576: true; the input reads as it did. -/
def fnMetaWinnerUptoRow : OpenClaim := { program := "ytlpchicpbnmdgac", sum := "4bf1bc7d0a13705840189108ccda416d0d7032779690e5f1b665e8da40a49151", func := "loop.example/objectmodel/laws.FnMetaWinner", spec := "fnMetaWinner", unfollowed := true, recurses := true, apart := false, narrowed := true }
def FnMetaWinnerUptoSaid : Prop := fnMetaWinnerUptoRow.holds Try.pinned (OpenSpec.upto fnMetaWinnerSpec)

/-- 'laws.FnMetaWinnerNone', WHERE WHAT IT READS IS OF BULK AT MOST 1048576: true; the input reads as it did. -/
def fnMetaWinnerNoneUptoRow : OpenClaim := { program := "ytlpchicpbnmdgac", sum := "4bf1bc7d0a13705840189108ccda416d0d7032779690e5f1b665e8da40a49151", func := "loop.example/objectmodel/laws.FnMetaWinnerNone", spec := "fnMetaWinnerNone", unfollowed := true, recurses := true, apart := false, narrowed := true }
def FnMetaWinnerNoneUptoSaid : Prop := fnMetaWinnerNoneUptoRow.holds Try.pinned (OpenSpec.upto fnMetaWinnerNoneSpec)

/-- 'laws.FnExactMetaWinner', WHERE WHAT IT READS IS OF BULK AT MOST 1048576: true; the input reads as it did. -/
def fnExactMetaWinnerUptoRow : OpenClaim := { program := "ytlpchicpbnmdgac", sum := "4bf1bc7d0a13705840189108ccda416d0d7032779690e5f1b665e8da40a49151", func := "loop.example/objectmodel/laws.FnExactMetaWinner", spec := "fnExactMetaWinner", unfollowed := true, recurses := true, apart := false, narrowed := true }
def FnExactMetaWinnerUptoSaid : Prop := fnExactMetaWinnerUptoRow.holds Try.pinned (OpenSpec.upto fnExactMetaWinnerSpec)

/-- 'laws.FnMetasOf', WHERE WHAT IT READS IS OF BULK AT MOST 1048576: true; the input reads as it did. -/
def fnMetasOfUptoRow : OpenClaim := { program := "ytlpchicpbnmdgac", sum := "4bf1bc7d0a13705840189108ccda416d0d7032779690e5f1b665e8da40a49151", func := "loop.example/objectmodel/laws.FnMetasOf", spec := "fnMetasOf", unfollowed := true, recurses := true, apart := false, narrowed := true }
def FnMetasOfUptoSaid : Prop := fnMetasOfUptoRow.holds Try.pinned (OpenSpec.upto fnMetasOfSpec)

/-- 'laws.FnMetasOfLine', WHERE WHAT IT READS IS OF BULK AT MOST 1048576: true; the input reads as it did. -/
def fnMetasOfLineUptoRow : OpenClaim := { program := "ytlpchicpbnmdgac", sum := "4bf1bc7d0a13705840189108ccda416d0d7032779690e5f1b665e8da40a49151", func := "loop.example/objectmodel/laws.FnMetasOfLine", spec := "fnMetasOfLine", unfollowed := true, recurses := true, apart := false, narrowed := true }
def FnMetasOfLineUptoSaid : Prop := fnMetasOfLineUptoRow.holds Try.pinned (OpenSpec.upto fnMetasOfLineSpec)

/-- 'laws.FnExactMetasOf', WHERE WHAT IT READS IS OF BULK AT MOST 1048576: true; the input reads as it did. -/
def fnExactMetasOfUptoRow : OpenClaim := { program := "ytlpchicpbnmdgac", sum := "4bf1bc7d0a13705840189108ccda416d0d7032779690e5f1b665e8da40a49151", func := "loop.example/objectmodel/laws.FnExactMetasOf", spec := "fnExactMetasOf", unfollowed := true, recurses := true, apart := false, narrowed := true }
def FnExactMetasOfUptoSaid : Prop := fnExactMetasOfUptoRow.holds Try.pinned (OpenSpec.upto fnExactMetasOfSpec)

/-- 'laws.FnSupersOf', WHERE WHAT IT READS IS OF BULK AT MOST 1048576: true; the input reads as it did. -/
def fnSupersOfUptoRow : OpenClaim := { program := "ytlpchicpbnmdgac", sum := "4bf1bc7d0a13705840189108ccda416d0d7032779690e5f1b665e8da40a49151", func := "loop.example/objectmodel/laws.FnSupersOf", spec := "fnSupersOf", unfollowed := true, recurses := true, apart := false, narrowed := true }
def FnSupersOfUptoSaid : Prop := fnSupersOfUptoRow.holds Try.pinned (OpenSpec.upto fnSupersOfSpec)

/-- 'laws.FnExactSupersOf', WHERE WHAT IT READS IS OF BULK AT MOST 1048576: true; the input reads as it did. -/
def fnExactSupersOfUptoRow : OpenClaim := { program := "ytlpchicpbnmdgac", sum := "4bf1bc7d0a13705840189108ccda416d0d7032779690e5f1b665e8da40a49151", func := "loop.example/objectmodel/laws.FnExactSupersOf", spec := "fnExactSupersOf", unfollowed := true, recurses := true, apart := false, narrowed := true }
def FnExactSupersOfUptoSaid : Prop := fnExactSupersOfUptoRow.holds Try.pinned (OpenSpec.upto fnExactSupersOfSpec)

/-- 'laws.FnIsSub', WHERE WHAT IT READS IS OF BULK AT MOST 1048576: true; the input reads as it did. -/
def fnIsSubUptoRow : OpenClaim := { program := "ytlpchicpbnmdgac", sum := "4bf1bc7d0a13705840189108ccda416d0d7032779690e5f1b665e8da40a49151", func := "loop.example/objectmodel/laws.FnIsSub", spec := "fnIsSub", unfollowed := true, recurses := true, apart := false, narrowed := true }
def FnIsSubUptoSaid : Prop := fnIsSubUptoRow.holds Try.pinned (OpenSpec.upto fnIsSubSpec)

/-- 'laws.FnExactIsSub', WHERE WHAT IT READS IS OF BULK AT MOST 1048576: true; the input reads as it did. -/
def fnExactIsSubUptoRow : OpenClaim := { program := "ytlpchicpbnmdgac", sum := "4bf1bc7d0a13705840189108ccda416d0d7032779690e5f1b665e8da40a49151", func := "loop.example/objectmodel/laws.FnExactIsSub", spec := "fnExactIsSub", unfollowed := true, recurses := true, apart := false, narrowed := true }
def FnExactIsSubUptoSaid : Prop := fnExactIsSubUptoRow.holds Try.pinned (OpenSpec.upto fnExactIsSubSpec)

/-- 'laws.FnRegister', WHERE WHAT IT READS IS OF BULK AT MOST 1048576: true; the input reads as it did. -/
def fnRegisterUptoRow : OpenClaim := { program := "ytlpchicpbnmdgac", sum := "4bf1bc7d0a13705840189108ccda416d0d7032779690e5f1b665e8da40a49151", func := "loop.example/objectmodel/laws.FnRegister", spec := "fnRegister", unfollowed := true, recurses := true, apart := false, narrowed := true }
def FnRegisterUptoSaid : Prop := fnRegisterUptoRow.holds Try.pinned (OpenSpec.upto fnRegisterSpec)

/-- 'laws.FnExactRegister', WHERE WHAT IT READS IS OF BULK AT MOST 1048576: true; the input reads as it did. -/
def fnExactRegisterUptoRow : OpenClaim := { program := "ytlpchicpbnmdgac", sum := "4bf1bc7d0a13705840189108ccda416d0d7032779690e5f1b665e8da40a49151", func := "loop.example/objectmodel/laws.FnExactRegister", spec := "fnExactRegister", unfollowed := true, recurses := true, apart := false, narrowed := true }
def FnExactRegisterUptoSaid : Prop := fnExactRegisterUptoRow.holds Try.pinned (OpenSpec.upto fnExactRegisterSpec)

end Rows
end Go.Proofs.Ytlpchicpbnmdgac
