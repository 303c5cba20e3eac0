/- Part 1 of the texts that the proof of FnHooksOf is built on. -/
import Derived.Test.YtlpchicpbnmdgabRows
import Derived.ProofKit
import Derived.JoinedOf
/- Facts on the program and on the row of FnHooksOf, reckoned by the kernel. -/
namespace Go.Proofs.Ytlpchicpbnmdgab.fnHooksOf
set_option linter.unusedVariables false
set_option linter.unusedSimpArgs false
theorem fx : (Try.prog.mayEnter && (Rows.fnHooksOfRow.lifted == Try.prog.liftsFinal) && (Try.prog.make == some Rows.fnHooksOfRow.make)) = true := by kernel_rfl
end Go.Proofs.Ytlpchicpbnmdgab.fnHooksOf
