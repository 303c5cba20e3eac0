/-
  No cell of these rows narrows 'for every input' (looked for: loops, veiled, ifaces, maps, wideKeys, modest, calm, conditions, laid).
  DERIVED. THE GIVEN ROWS OF THIS SEAT. 6 by the template 'for every input the law returns true; each argument reads behind the call as it read before'; 0 by the template 'total and deterministic' (their statements: YtbbaoaolkpciaacTotals.lean).
  GIVEN WITH THE SEED: the statements are not yours to turn. If you find one false, say at which input.
  Laid BY PROGRAM, IN A SANDBOX (cutbox-rows.mjs): the forced cells as the released guide's own fill.sh prints them over the translation bad49598a8341f50… (all of the seat's roots in one cut). By AI agents, Wed Nov 11 2026. No macro, syntax, notation, axiom, sorry.
-/
import Derived.Test.YtbbaoaolkpciaacChecked
import GoSem.Claim
import GoSem.ClaimJoined
import GoSem.ClaimMapViews
import Derived.JoinedTies
import Derived.KernelRfl
namespace Go.Proofs.Ytbbaoaolkpciaac
/- THE CELL 'sum', in the pinned program and in every row, IS THE sha256 OF THE DUMP (.gsa) THAT YtbbaoaolkpciaacProg.lean LOADS. Nothing in Lean hashes anything: it is a label: what it is worth is what the hold of that sum in a sandbox is worth. -/
noncomputable def Try.pinned : Pinned := { name := "ytbbaoaolkpciaac", sum := "bad49598a8341f502af1801cd4fd829a902748280de85a1fb4f77e61ae8d07a7", checked := Try.checked }
namespace Rows
def none {H : Type} : Left H := { results := [], args := [] }

/-- 'laws.FnExactStuckHeads': WHATEVER THE INPUT: true; the input reads as it did. -/
def fnExactStuckHeadsSpec : ChangeSpec := { name := "fnExactStuckHeads", fn := fun _ => fun
  | [d] => { results := [.lit (.bool true)], args := [d] }
  | _ => none }
def fnExactStuckHeadsRow : OpenClaim := { program := "ytbbaoaolkpciaac", sum := "bad49598a8341f502af1801cd4fd829a902748280de85a1fb4f77e61ae8d07a7", func := "loop.example/objectmodel/laws.FnExactStuckHeads", spec := "fnExactStuckHeads", apart := false }
def FnExactStuckHeadsSaid : Prop := fnExactStuckHeadsRow.holds Try.pinned (OpenSpec.ofChange fnExactStuckHeadsSpec)

/-- ITS FALSE NEIGHBOUR: 'it returns false'. Refute it at one input. -/
def fnExactStuckHeadsWrong : ChangeSpec := { name := "fnExactStuckHeads", fn := fun _ => fun
  | [d] => { results := [.lit (.bool false)], args := [d] }
  | _ => none }
def FnExactStuckHeadsWrongFalsely : Prop := fnExactStuckHeadsRow.holds Try.pinned (OpenSpec.ofChange fnExactStuckHeadsWrong)

/-- 'laws.FnExactMergeLists': WHATEVER THE INPUT: true; the input reads as it did. -/
def fnExactMergeListsSpec : ChangeSpec := { name := "fnExactMergeLists", fn := fun _ => fun
  | [d] => { results := [.lit (.bool true)], args := [d] }
  | _ => none }
def fnExactMergeListsRow : OpenClaim := { program := "ytbbaoaolkpciaac", sum := "bad49598a8341f502af1801cd4fd829a902748280de85a1fb4f77e61ae8d07a7", func := "loop.example/objectmodel/laws.FnExactMergeLists", spec := "fnExactMergeLists", apart := false }
def FnExactMergeListsSaid : Prop := fnExactMergeListsRow.holds Try.pinned (OpenSpec.ofChange fnExactMergeListsSpec)

/-- ITS FALSE NEIGHBOUR: 'it returns false'. Refute it at one input. -/
def fnExactMergeListsWrong : ChangeSpec := { name := "fnExactMergeLists", fn := fun _ => fun
  | [d] => { results := [.lit (.bool false)], args := [d] }
  | _ => none }
def FnExactMergeListsWrongFalsely : Prop := fnExactMergeListsRow.holds Try.pinned (OpenSpec.ofChange fnExactMergeListsWrong)

/-- 'laws.FnExactOrderOf': WHATEVER THE INPUT: true; the input reads as it did. -/
def fnExactOrderOfSpec : ChangeSpec := { name := "fnExactOrderOf", fn := fun _ => fun
  | [d1, d2] => { results := [.lit (.bool true)], args := [d1, d2] }
  | _ => none }
def fnExactOrderOfRow : OpenClaim := { program := "ytbbaoaolkpciaac", sum := "bad49598a8341f502af1801cd4fd829a902748280de85a1fb4f77e61ae8d07a7", func := "loop.example/objectmodel/laws.FnExactOrderOf", spec := "fnExactOrderOf", recurses := true, apart := false }
def FnExactOrderOfSaid : Prop := fnExactOrderOfRow.holds Try.pinned (OpenSpec.ofChange fnExactOrderOfSpec)

/-- ITS FALSE NEIGHBOUR: 'it returns false'. Refute it at one input. -/
def fnExactOrderOfWrong : ChangeSpec := { name := "fnExactOrderOf", fn := fun _ => fun
  | [d1, d2] => { results := [.lit (.bool false)], args := [d1, d2] }
  | _ => none }
def FnExactOrderOfWrongFalsely : Prop := fnExactOrderOfRow.holds Try.pinned (OpenSpec.ofChange fnExactOrderOfWrong)

/-- 'laws.FnExactAllOrders': WHATEVER THE INPUT: true; the input reads as it did. -/
def fnExactAllOrdersSpec : ChangeSpec := { name := "fnExactAllOrders", fn := fun _ => fun
  | [d] => { results := [.lit (.bool true)], args := [d] }
  | _ => none }
def fnExactAllOrdersRow : OpenClaim := { program := "ytbbaoaolkpciaac", sum := "bad49598a8341f502af1801cd4fd829a902748280de85a1fb4f77e61ae8d07a7", func := "loop.example/objectmodel/laws.FnExactAllOrders", spec := "fnExactAllOrders", recurses := true, apart := false }
def FnExactAllOrdersSaid : Prop := fnExactAllOrdersRow.holds Try.pinned (OpenSpec.ofChange fnExactAllOrdersSpec)

/-- ITS FALSE NEIGHBOUR: 'it returns false'. Refute it at one input. -/
def fnExactAllOrdersWrong : ChangeSpec := { name := "fnExactAllOrders", fn := fun _ => fun
  | [d] => { results := [.lit (.bool false)], args := [d] }
  | _ => none }
def FnExactAllOrdersWrongFalsely : Prop := fnExactAllOrdersRow.holds Try.pinned (OpenSpec.ofChange fnExactAllOrdersWrong)

/-- 'laws.FnOrderOf': WHATEVER THE INPUT: true; the input reads as it did. -/
def fnOrderOfSpec : ChangeSpec := { name := "fnOrderOf", fn := fun _ => fun
  | [d] => { results := [.lit (.bool true)], args := [d] }
  | _ => none }
def fnOrderOfRow : OpenClaim := { program := "ytbbaoaolkpciaac", sum := "bad49598a8341f502af1801cd4fd829a902748280de85a1fb4f77e61ae8d07a7", func := "loop.example/objectmodel/laws.FnOrderOf", spec := "fnOrderOf", recurses := true, apart := false }
def FnOrderOfSaid : Prop := fnOrderOfRow.holds Try.pinned (OpenSpec.ofChange fnOrderOfSpec)

/-- ITS FALSE NEIGHBOUR: 'it returns false'. Refute it at one input. -/
def fnOrderOfWrong : ChangeSpec := { name := "fnOrderOf", fn := fun _ => fun
  | [d] => { results := [.lit (.bool false)], args := [d] }
  | _ => none }
def FnOrderOfWrongFalsely : Prop := fnOrderOfRow.holds Try.pinned (OpenSpec.ofChange fnOrderOfWrong)

/-- 'laws.FnOrderOfSame': WHATEVER THE INPUT: true; the input reads as it did. -/
def fnOrderOfSameSpec : ChangeSpec := { name := "fnOrderOfSame", fn := fun _ => fun
  | [d] => { results := [.lit (.bool true)], args := [d] }
  | _ => none }
def fnOrderOfSameRow : OpenClaim := { program := "ytbbaoaolkpciaac", sum := "bad49598a8341f502af1801cd4fd829a902748280de85a1fb4f77e61ae8d07a7", func := "loop.example/objectmodel/laws.FnOrderOfSame", spec := "fnOrderOfSame", recurses := true, apart := false }
def FnOrderOfSameSaid : Prop := fnOrderOfSameRow.holds Try.pinned (OpenSpec.ofChange fnOrderOfSameSpec)

/-- ITS FALSE NEIGHBOUR: 'it returns false'. Refute it at one input. -/
def fnOrderOfSameWrong : ChangeSpec := { name := "fnOrderOfSame", fn := fun _ => fun
  | [d] => { results := [.lit (.bool false)], args := [d] }
  | _ => none }
def FnOrderOfSameWrongFalsely : Prop := fnOrderOfSameRow.holds Try.pinned (OpenSpec.ofChange fnOrderOfSameWrong)

/- THE SECOND FORM. 'bulk': how many values and letters a reading holds, each counted each time it is reached (what is shared counts as often as it is met; a slice's spare places count too). A statement '..UptoSaid' is the law's where the arguments, and the package variables that the reading takes, are together of bulk at most 1048576: NARROWER than '..Said'. Prove '..Said' where nothing that the law and all that it calls make is longer than what came in: it says more and counts as full. Else prove '..UptoSaid'. A law counts once. -/
mutual
def uptoBulk {H : Type} : DataW H → Nat
  | .lit (.string bytes) => bytes.length + 1
  | .lit _ => 1
  | .nil => 1
  | .ptr d => uptoBulk d + 1
  | .slice elems spare => uptoBulkAll elems + uptoBulkAll spare + 1
  | .agg parts => uptoBulkAll parts + 1
  | .iface _ d => uptoBulk d + 1
  | .map entries => uptoBulkEntries entries + 1
  | .held _ => 1
def uptoBulkAll {H : Type} : List (DataW H) → Nat
  | [] => 0
  | d :: r => uptoBulk d + uptoBulkAll r
def uptoBulkEntries {H : Type} : List (Lit × DataW H) → Nat
  | [] => 0
  | x :: r => uptoBulkEntry x + uptoBulkEntries r
def uptoBulkEntry {H : Type} : Lit × DataW H → Nat
  | (.string bytes, d) => bytes.length + uptoBulk d + 1
  | (_, d) => uptoBulk d + 1
 end
def uptoSmall : (H : Type) → List (DataW H) → Bool := fun _ ds => decide (uptoBulkAll ds ≤ 1048576)
def OpenSpec.upto (s : _root_.Go.ChangeSpec) : _root_.Go.OpenSpec := { _root_.Go.OpenSpec.ofChange s with cond := some uptoSmall }

/-- 'laws.FnExactStuckHeads', WHERE WHAT IT READS IS OF BULK AT MOST 1048576: true; the input reads as it did. -/
def fnExactStuckHeadsUptoRow : OpenClaim := { program := "ytbbaoaolkpciaac", sum := "bad49598a8341f502af1801cd4fd829a902748280de85a1fb4f77e61ae8d07a7", func := "loop.example/objectmodel/laws.FnExactStuckHeads", spec := "fnExactStuckHeads", apart := false, narrowed := true }
def FnExactStuckHeadsUptoSaid : Prop := fnExactStuckHeadsUptoRow.holds Try.pinned (OpenSpec.upto fnExactStuckHeadsSpec)

/-- 'laws.FnExactMergeLists', WHERE WHAT IT READS IS OF BULK AT MOST 1048576: true; the input reads as it did. -/
def fnExactMergeListsUptoRow : OpenClaim := { program := "ytbbaoaolkpciaac", sum := "bad49598a8341f502af1801cd4fd829a902748280de85a1fb4f77e61ae8d07a7", func := "loop.example/objectmodel/laws.FnExactMergeLists", spec := "fnExactMergeLists", apart := false, narrowed := true }
def FnExactMergeListsUptoSaid : Prop := fnExactMergeListsUptoRow.holds Try.pinned (OpenSpec.upto fnExactMergeListsSpec)

/-- 'laws.FnExactOrderOf', WHERE WHAT IT READS IS OF BULK AT MOST 1048576: true; the input reads as it did. -/
def fnExactOrderOfUptoRow : OpenClaim := { program := "ytbbaoaolkpciaac", sum := "bad49598a8341f502af1801cd4fd829a902748280de85a1fb4f77e61ae8d07a7", func := "loop.example/objectmodel/laws.FnExactOrderOf", spec := "fnExactOrderOf", recurses := true, apart := false, narrowed := true }
def FnExactOrderOfUptoSaid : Prop := fnExactOrderOfUptoRow.holds Try.pinned (OpenSpec.upto fnExactOrderOfSpec)

/-- 'laws.FnExactAllOrders', WHERE WHAT IT READS IS OF BULK AT MOST 1048576: true; the input reads as it did. -/
def fnExactAllOrdersUptoRow : OpenClaim := { program := "ytbbaoaolkpciaac", sum := "bad49598a8341f502af1801cd4fd829a902748280de85a1fb4f77e61ae8d07a7", func := "loop.example/objectmodel/laws.FnExactAllOrders", spec := "fnExactAllOrders", recurses := true, apart := false, narrowed := true }
def FnExactAllOrdersUptoSaid : Prop := fnExactAllOrdersUptoRow.holds Try.pinned (OpenSpec.upto fnExactAllOrdersSpec)

/-- 'laws.FnOrderOf', WHERE WHAT IT READS IS OF BULK AT MOST 1048576: true; the input reads as it did. -/
def fnOrderOfUptoRow : OpenClaim := { program := "ytbbaoaolkpciaac", sum := "bad49598a8341f502af1801cd4fd829a902748280de85a1fb4f77e61ae8d07a7", func := "loop.example/objectmodel/laws.FnOrderOf", spec := "fnOrderOf", recurses := true, apart := false, narrowed := true }
def FnOrderOfUptoSaid : Prop := fnOrderOfUptoRow.holds Try.pinned (OpenSpec.upto fnOrderOfSpec)

/-- 'laws.FnOrderOfSame', WHERE WHAT IT READS IS OF BULK AT MOST 1048576: true; the input reads as it did. -/
def fnOrderOfSameUptoRow : OpenClaim := { program := "ytbbaoaolkpciaac", sum := "bad49598a8341f502af1801cd4fd829a902748280de85a1fb4f77e61ae8d07a7", func := "loop.example/objectmodel/laws.FnOrderOfSame", spec := "fnOrderOfSame", recurses := true, apart := false, narrowed := true }
def FnOrderOfSameUptoSaid : Prop := fnOrderOfSameUptoRow.holds Try.pinned (OpenSpec.upto fnOrderOfSameSpec)

end Rows
end Go.Proofs.Ytbbaoaolkpciaac
