/- Part 1 of the texts that the proof of FnExactHooksOf is built on. -/
import Derived.Test.YtlpchicpbnmdgaaRows
import Derived.ProofKit
import Derived.JoinedOf
/- Facts on the program and on the row of FnExactHooksOf, reckoned by the kernel. -/
namespace Go.Proofs.Ytlpchicpbnmdgaa.fnExactHooksOf
set_option linter.unusedVariables false
set_option linter.unusedSimpArgs false
theorem fx : (Try.prog.mayEnter && (Rows.fnExactHooksOfRow.lifted == Try.prog.liftsFinal) && (Try.prog.make == some Rows.fnExactHooksOfRow.make)) = true := by kernel_rfl
end Go.Proofs.Ytlpchicpbnmdgaa.fnExactHooksOf
