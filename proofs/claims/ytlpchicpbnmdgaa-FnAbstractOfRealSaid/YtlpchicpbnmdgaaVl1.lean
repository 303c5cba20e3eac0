/- Part 1 of the texts that the proof of FnAbstractOfReal is built on. -/
import Derived.Test.YtlpchicpbnmdgaaRows
import Derived.ProofKit
import Derived.JoinedOf
/- Facts on the program and on the row of FnAbstractOfReal, reckoned by the kernel. -/
namespace Go.Proofs.Ytlpchicpbnmdgaa.fnAbstractOfReal
set_option linter.unusedVariables false
set_option linter.unusedSimpArgs false
theorem fx : (Try.prog.mayEnter && (Rows.fnAbstractOfRealRow.lifted == Try.prog.liftsFinal) && (Try.prog.make == some Rows.fnAbstractOfRealRow.make)) = true := by kernel_rfl
end Go.Proofs.Ytlpchicpbnmdgaa.fnAbstractOfReal
