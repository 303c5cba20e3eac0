/- Part 1 of the texts that the proof of FnValidWorks is built on. -/
import Derived.Test.YtlpchicpbnmdgaaRows
import Derived.ProofKit
import Derived.JoinedOf
/- Facts on the program and on the row of FnValidWorks, reckoned by the kernel. -/
namespace Go.Proofs.Ytlpchicpbnmdgaa.fnValidWorks
set_option linter.unusedVariables false
set_option linter.unusedSimpArgs false
theorem fx : (Try.prog.mayEnter && (Rows.fnValidWorksRow.lifted == Try.prog.liftsFinal) && (Try.prog.make == some Rows.fnValidWorksRow.make)) = true := by kernel_rfl
end Go.Proofs.Ytlpchicpbnmdgaa.fnValidWorks
