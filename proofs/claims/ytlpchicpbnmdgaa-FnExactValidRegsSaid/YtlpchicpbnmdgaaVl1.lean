/- Part 1 of the texts that the proof of FnExactValidRegs is built on. -/
import Derived.Test.YtlpchicpbnmdgaaRows
import Derived.ProofKit
import Derived.JoinedOf
/- Facts on the program and on the row of FnExactValidRegs, reckoned by the kernel. -/
namespace Go.Proofs.Ytlpchicpbnmdgaa.fnExactValidRegs
set_option linter.unusedVariables false
set_option linter.unusedSimpArgs false
theorem fx : (Try.prog.mayEnter && (Rows.fnExactValidRegsRow.lifted == Try.prog.liftsFinal) && (Try.prog.make == some Rows.fnExactValidRegsRow.make)) = true := by kernel_rfl
end Go.Proofs.Ytlpchicpbnmdgaa.fnExactValidRegs
