/- Part 1 of the texts that the proof of FnExactNamesOf is built on. -/
import Derived.Test.YtlpchicpbnmdgabGreatRows
import Derived.ProofKit
import Derived.JoinedOf
/- Facts on the program and on the row of FnExactNamesOf, reckoned by the kernel. -/
namespace Go.Proofs.YtlpchicpbnmdgabGreat.fnExactNamesOf
set_option linter.unusedVariables false
set_option linter.unusedSimpArgs false
theorem fx : (Tryz.prog.mayEnter && (Rows.fnExactNamesOfRow.lifted == Tryz.prog.liftsFinal) && (Tryz.prog.make == some Rows.fnExactNamesOfRow.make)) = true := by kernel_rfl
end Go.Proofs.YtlpchicpbnmdgabGreat.fnExactNamesOf
