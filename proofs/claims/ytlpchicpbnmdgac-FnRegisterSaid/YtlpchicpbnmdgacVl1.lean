/- Part 1 of the texts that the proof of FnRegister is built on. -/
import Derived.Test.YtlpchicpbnmdgacRows
import Derived.ProofKit
import Derived.JoinedOf
/- Facts on the program and on the row of FnRegister, reckoned by the kernel. -/
namespace Go.Proofs.Ytlpchicpbnmdgac.fnRegister
set_option linter.unusedVariables false
set_option linter.unusedSimpArgs false
theorem fx : (Try.prog.mayEnter && (Rows.fnRegisterRow.lifted == Try.prog.liftsFinal) && (Try.prog.make == some Rows.fnRegisterRow.make)) = true := by kernel_rfl
end Go.Proofs.Ytlpchicpbnmdgac.fnRegister
