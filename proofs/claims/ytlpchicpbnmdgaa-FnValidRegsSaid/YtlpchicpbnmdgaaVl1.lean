/- Part 1 of the texts that the proof of FnValidRegs is built on. -/
import Derived.Test.YtlpchicpbnmdgaaRows
import Derived.ProofKit
import Derived.JoinedOf
/- Facts on the program and on the row of FnValidRegs, reckoned by the kernel. -/
namespace Go.Proofs.Ytlpchicpbnmdgaa.fnValidRegs
set_option linter.unusedVariables false
set_option linter.unusedSimpArgs false
theorem fx : (Try.prog.mayEnter && (Rows.fnValidRegsRow.lifted == Try.prog.liftsFinal) && (Try.prog.make == some Rows.fnValidRegsRow.make)) = true := by kernel_rfl
end Go.Proofs.Ytlpchicpbnmdgaa.fnValidRegs
