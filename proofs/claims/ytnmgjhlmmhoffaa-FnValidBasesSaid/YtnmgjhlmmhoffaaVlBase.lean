/- The facts on the types of this translation that the rules ask for. -/
import Derived.Test.YtnmgjhlmmhoffaaVlX
import Derived.Test.YtnmgjhlmmhoffaaProg
import Derived.KernelRfl
namespace Go.Vl
set_option linter.unusedVariables false
set_option linter.unusedSimpArgs false
open Go.Proofs
noncomputable def ti3 : TypeInfo := (Try.prog.info? 3).getD default
theorem inf3 : Try.prog.info? 3 = some ti3 := by kernel_rfl
theorem sz3 : ti3.size = 1 := by kernel_rfl
theorem by3 : ti3.bytes = 8 := by kernel_rfl
noncomputable def ti4 : TypeInfo := (Try.prog.info? 4).getD default
theorem inf4 : Try.prog.info? 4 = some ti4 := by kernel_rfl
theorem sz4 : ti4.size = 1 := by kernel_rfl
theorem by4 : ti4.bytes = 1 := by kernel_rfl
noncomputable def ti5 : TypeInfo := (Try.prog.info? 5).getD default
theorem inf5 : Try.prog.info? 5 = some ti5 := by kernel_rfl
theorem sz5 : ti5.size = 1 := by kernel_rfl
theorem by5 : ti5.bytes = 1 := by kernel_rfl
noncomputable def ti22 : TypeInfo := (Try.prog.info? 22).getD default
theorem inf22 : Try.prog.info? 22 = some ti22 := by kernel_rfl
theorem sz22 : ti22.size = 1 := by kernel_rfl
theorem by22 : ti22.bytes = 24 := by kernel_rfl
noncomputable def ti27 : TypeInfo := (Try.prog.info? 27).getD default
theorem inf27 : Try.prog.info? 27 = some ti27 := by kernel_rfl
theorem sz27 : ti27.size = 1 := by kernel_rfl
theorem by27 : ti27.bytes = 24 := by kernel_rfl
noncomputable def ti57 : TypeInfo := (Try.prog.info? 57).getD default
theorem inf57 : Try.prog.info? 57 = some ti57 := by kernel_rfl
theorem sz57 : ti57.size = 2 := by kernel_rfl
theorem by57 : ti57.bytes = 32 := by kernel_rfl
theorem E22 : ElInfo Try.prog 22 5 1 1 (.int .u8 0) :=
  ⟨Try.underlying22, ⟨ti5, (.int .u8 0), inf5, sz5, by5, by kernel_rfl, by kernel_rfl, fun _ _ => .int _ _⟩, fits_of rfl, by decide⟩
theorem E23 : ElInfo Try.prog 23 27 1 24 (.sl (some true) 1 []) :=
  ⟨Try.underlying23, ⟨ti27, (.slice none 0 0), inf27, sz27, by27, by kernel_rfl, by kernel_rfl, fun _ _ => .nilsl _ _ (by decide)⟩, fits_of rfl, by decide⟩
theorem E27 : ElInfo Try.prog 27 3 1 8 (.int .i64 0) :=
  ⟨Try.underlying27, ⟨ti3, (.int .i64 0), inf3, sz3, by3, by kernel_rfl, by kernel_rfl, fun _ _ => .int _ _⟩, fits_of rfl, by decide⟩
theorem E52 : ElInfo Try.prog 52 4 1 1 (.bool false) :=
  ⟨Try.underlying52, ⟨ti4, (.bool false), inf4, sz4, by4, by kernel_rfl, by kernel_rfl, fun _ _ => .bool _⟩, fits_of rfl, by decide⟩
theorem S57 : StInfo Try.prog 57 [(0, 1), (1, 1)] [(.sl (some true) 1 []), (.int .i64 0)] := by
  refine ⟨⟨_, Try.underlying57⟩, #[(.slice none 0 0), (.int .i64 0)], fun l => by kernel_rfl, fun w G => .agg _ _ rfl ?_ ?_⟩
  · intro j c h
    match j, h with
    | 0, h => cases h; rfl
    | 1, h => cases h; rfl
  · intro j c u h hu
    match j, h, hu with
    | 0, h, hu => cases h; cases hu; exact .nilsl _ _ (by decide)
    | 1, h, hu => cases h; cases hu; exact .int _ _
end Go.Vl
