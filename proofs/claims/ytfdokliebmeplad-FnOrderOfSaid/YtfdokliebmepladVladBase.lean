/- The facts on the types of this translation that the rules ask for. -/
import Derived.Test.YtfdokliebmepladVlZ3
import Derived.Test.YtfdokliebmepladVlM2
import Derived.Test.YtfdokliebmepladVlM3
import Derived.Test.YtfdokliebmepladProg
import Derived.KernelRfl
namespace Go.Vl
set_option linter.unusedVariables false
set_option linter.unusedSimpArgs false
open Go.Proofs
noncomputable def ti3 : TypeInfo := (Try.prog.info? 3).getD default
theorem inf3 : Try.prog.info? 3 = some ti3 := by kernel_rfl
theorem sz3 : ti3.size = 1 := by kernel_rfl
theorem by3 : ti3.bytes = 8 := by kernel_rfl
noncomputable def ti4 : TypeInfo := (Try.prog.info? 4).getD default
theorem inf4 : Try.prog.info? 4 = some ti4 := by kernel_rfl
theorem sz4 : ti4.size = 1 := by kernel_rfl
theorem by4 : ti4.bytes = 1 := by kernel_rfl
noncomputable def ti5 : TypeInfo := (Try.prog.info? 5).getD default
theorem inf5 : Try.prog.info? 5 = some ti5 := by kernel_rfl
theorem sz5 : ti5.size = 1 := by kernel_rfl
theorem by5 : ti5.bytes = 1 := by kernel_rfl
noncomputable def ti22 : TypeInfo := (Try.prog.info? 22).getD default
theorem inf22 : Try.prog.info? 22 = some ti22 := by kernel_rfl
theorem sz22 : ti22.size = 1 := by kernel_rfl
theorem by22 : ti22.bytes = 24 := by kernel_rfl
noncomputable def ti25 : TypeInfo := (Try.prog.info? 25).getD default
theorem inf25 : Try.prog.info? 25 = some ti25 := by kernel_rfl
theorem sz25 : ti25.size = 1 := by kernel_rfl
theorem by25 : ti25.bytes = 24 := by kernel_rfl
noncomputable def ti63 : TypeInfo := (Try.prog.info? 63).getD default
theorem inf63 : Try.prog.info? 63 = some ti63 := by kernel_rfl
theorem sz63 : ti63.size = 2 := by kernel_rfl
theorem by63 : ti63.bytes = 32 := by kernel_rfl
theorem E22 : ElInfo Try.prog 22 5 1 1 (.int .u8 0) :=
  ⟨Try.underlying22, ⟨ti5, (.int .u8 0), inf5, sz5, by5, by kernel_rfl, by kernel_rfl, fun _ _ => .int _ _⟩, fits_of rfl, by decide⟩
theorem E23 : ElInfo Try.prog 23 25 1 24 (.sl (some true) 1 []) :=
  ⟨Try.underlying23, ⟨ti25, (.slice none 0 0), inf25, sz25, by25, by kernel_rfl, by kernel_rfl, fun _ _ => .nilsl _ _ (by decide)⟩, fits_of rfl, by decide⟩
theorem E25 : ElInfo Try.prog 25 3 1 8 (.int .i64 0) :=
  ⟨Try.underlying25, ⟨ti3, (.int .i64 0), inf3, sz3, by3, by kernel_rfl, by kernel_rfl, fun _ _ => .int _ _⟩, fits_of rfl, by decide⟩
theorem E59 : ElInfo Try.prog 59 4 1 1 (.bool false) :=
  ⟨Try.underlying59, ⟨ti4, (.bool false), inf4, sz4, by4, by kernel_rfl, by kernel_rfl, fun _ _ => .bool _⟩, fits_of rfl, by decide⟩
theorem Z63 : StZ Try.prog 63 [(.sl none 1 []), (.int .i64 0)] := by
  refine ⟨⟨_, Try.underlying63⟩, ti63, #[(.slice none 0 0), (.int .i64 0)], inf63, sz63, by kernel_rfl, fun w G => .agg _ _ rfl ?_ ?_⟩
  · intro j c h
    match j, h with
    | 0, h => cases h; rfl
    | 1, h => cases h; rfl
  · intro j c u h hu
    match j, h, hu with
    | 0, h, hu => cases h; cases hu; exact .nilsl _ _ (by decide)
    | 1, h, hu => cases h; cases hu; exact .int _ _
theorem S63 : StInfo Try.prog 63 [(0, 1), (1, 1)] [(.sl none 1 []), (.int .i64 0)] := by
  refine ⟨⟨_, Try.underlying63⟩, #[(.slice none 0 0), (.int .i64 0)], fun l => by kernel_rfl, fun w G => .agg _ _ rfl ?_ ?_⟩
  · intro j c h
    match j, h with
    | 0, h => cases h; rfl
    | 1, h => cases h; rfl
  · intro j c u h hu
    match j, h, hu with
    | 0, h, hu => cases h; cases hu; exact .nilsl _ _ (by decide)
    | 1, h, hu => cases h; cases hu; exact .int _ _
end Go.Vl
