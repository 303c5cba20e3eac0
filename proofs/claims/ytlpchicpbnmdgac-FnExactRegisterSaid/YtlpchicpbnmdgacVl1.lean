/- Part 1 of the texts that the proof of FnExactRegister is built on. -/
import Derived.Test.YtlpchicpbnmdgacRows
import Derived.ProofKit
import Derived.JoinedOf
/- Facts on the program and on the row of FnExactRegister, reckoned by the kernel. -/
namespace Go.Proofs.Ytlpchicpbnmdgac.fnExactRegister
set_option linter.unusedVariables false
set_option linter.unusedSimpArgs false
theorem fx : (Try.prog.mayEnter && (Rows.fnExactRegisterRow.lifted == Try.prog.liftsFinal) && (Try.prog.make == some Rows.fnExactRegisterRow.make)) = true := by kernel_rfl
end Go.Proofs.Ytlpchicpbnmdgac.fnExactRegister
