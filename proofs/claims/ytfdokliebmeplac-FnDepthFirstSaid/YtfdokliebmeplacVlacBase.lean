/- The facts on the types of this translation that the rules ask for. -/
import Derived.Test.YtfdokliebmeplacVlZ3
import Derived.Test.YtfdokliebmeplacVlM2
import Derived.Test.YtfdokliebmeplacVlM4
import Derived.Test.YtfdokliebmeplacProg
import Derived.KernelRfl
namespace Go.Vl
set_option linter.unusedVariables false
set_option linter.unusedSimpArgs false
open Go.Proofs
noncomputable def ti3 : TypeInfo := (Try.prog.info? 3).getD default
theorem inf3 : Try.prog.info? 3 = some ti3 := by kernel_rfl
theorem sz3 : ti3.size = 1 := by kernel_rfl
theorem by3 : ti3.bytes = 8 := by kernel_rfl
noncomputable def ti4 : TypeInfo := (Try.prog.info? 4).getD default
theorem inf4 : Try.prog.info? 4 = some ti4 := by kernel_rfl
theorem sz4 : ti4.size = 1 := by kernel_rfl
theorem by4 : ti4.bytes = 1 := by kernel_rfl
noncomputable def ti5 : TypeInfo := (Try.prog.info? 5).getD default
theorem inf5 : Try.prog.info? 5 = some ti5 := by kernel_rfl
theorem sz5 : ti5.size = 1 := by kernel_rfl
theorem by5 : ti5.bytes = 1 := by kernel_rfl
noncomputable def ti22 : TypeInfo := (Try.prog.info? 22).getD default
theorem inf22 : Try.prog.info? 22 = some ti22 := by kernel_rfl
theorem sz22 : ti22.size = 1 := by kernel_rfl
theorem by22 : ti22.bytes = 24 := by kernel_rfl
noncomputable def ti28 : TypeInfo := (Try.prog.info? 28).getD default
theorem inf28 : Try.prog.info? 28 = some ti28 := by kernel_rfl
theorem sz28 : ti28.size = 1 := by kernel_rfl
theorem by28 : ti28.bytes = 24 := by kernel_rfl
noncomputable def ti34 : TypeInfo := (Try.prog.info? 34).getD default
theorem inf34 : Try.prog.info? 34 = some ti34 := by kernel_rfl
theorem sz34 : ti34.size = 1 := by kernel_rfl
theorem by34 : ti34.bytes = 24 := by kernel_rfl
noncomputable def ti37 : TypeInfo := (Try.prog.info? 37).getD default
theorem inf37 : Try.prog.info? 37 = some ti37 := by kernel_rfl
theorem sz37 : ti37.size = 2 := by kernel_rfl
theorem by37 : ti37.bytes = 16 := by kernel_rfl
noncomputable def ti63 : TypeInfo := (Try.prog.info? 63).getD default
theorem inf63 : Try.prog.info? 63 = some ti63 := by kernel_rfl
theorem sz63 : ti63.size = 2 := by kernel_rfl
theorem by63 : ti63.bytes = 32 := by kernel_rfl
noncomputable def ti65 : TypeInfo := (Try.prog.info? 65).getD default
theorem inf65 : Try.prog.info? 65 = some ti65 := by kernel_rfl
theorem sz65 : ti65.size = 3 := by kernel_rfl
theorem by65 : ti65.bytes = 40 := by kernel_rfl
noncomputable def ti76 : TypeInfo := (Try.prog.info? 76).getD default
theorem inf76 : Try.prog.info? 76 = some ti76 := by kernel_rfl
theorem sz76 : ti76.size = 2 := by kernel_rfl
theorem by76 : ti76.bytes = 32 := by kernel_rfl
theorem E22 : ElInfo Try.prog 22 5 1 1 (.int .u8 0) :=
  ⟨Try.underlying22, ⟨ti5, (.int .u8 0), inf5, sz5, by5, by kernel_rfl, by kernel_rfl, fun _ _ => .int _ _⟩, fits_of rfl, by decide⟩
theorem E23 : ElInfo Try.prog 23 34 1 24 (.sl (some true) 1 []) :=
  ⟨Try.underlying23, ⟨ti34, (.slice none 0 0), inf34, sz34, by34, by kernel_rfl, by kernel_rfl, fun _ _ => .nilsl _ _ (by decide)⟩, fits_of rfl, by decide⟩
theorem E34 : ElInfo Try.prog 34 3 1 8 (.int .i64 0) :=
  ⟨Try.underlying34, ⟨ti3, (.int .i64 0), inf3, sz3, by3, by kernel_rfl, by kernel_rfl, fun _ _ => .int _ _⟩, fits_of rfl, by decide⟩
theorem E67 : ElInfo Try.prog 67 4 1 1 (.bool false) :=
  ⟨Try.underlying67, ⟨ti4, (.bool false), inf4, sz4, by4, by kernel_rfl, by kernel_rfl, fun _ _ => .bool _⟩, fits_of rfl, by decide⟩
theorem Z37 : StZ Try.prog 37 [(.int .i64 0), (.int .i64 0)] := by
  refine ⟨⟨_, Try.underlying37⟩, ti37, #[(.int .i64 0), (.int .i64 0)], inf37, sz37, by kernel_rfl, fun w G => .agg _ _ rfl ?_ ?_⟩
  · intro j c h
    match j, h with
    | 0, h => cases h; rfl
    | 1, h => cases h; rfl
  · intro j c u h hu
    match j, h, hu with
    | 0, h, hu => cases h; cases hu; exact .int _ _
    | 1, h, hu => cases h; cases hu; exact .int _ _
theorem E28 : ElInfo Try.prog 28 37 2 16 (.agg [(.int .i64 0), (.int .i64 0)]) := .of_struct Try.underlying28 Z37 (fun i h => by rw [inf37] at h; cases h; exact by37) (by simp)
theorem S37 : StInfo Try.prog 37 [(0, 1), (1, 1)] [(.int .i64 0), (.int .i64 0)] := by
  refine ⟨⟨_, Try.underlying37⟩, #[(.int .i64 0), (.int .i64 0)], fun l => by kernel_rfl, fun w G => .agg _ _ rfl ?_ ?_⟩
  · intro j c h
    match j, h with
    | 0, h => cases h; rfl
    | 1, h => cases h; rfl
  · intro j c u h hu
    match j, h, hu with
    | 0, h, hu => cases h; cases hu; exact .int _ _
    | 1, h, hu => cases h; cases hu; exact .int _ _
theorem Z63 : StZ Try.prog 63 [(.int .i64 0), (.sl none 2 [])] := by
  refine ⟨⟨_, Try.underlying63⟩, ti63, #[(.int .i64 0), (.slice none 0 0)], inf63, sz63, by kernel_rfl, fun w G => .agg _ _ rfl ?_ ?_⟩
  · intro j c h
    match j, h with
    | 0, h => cases h; rfl
    | 1, h => cases h; rfl
  · intro j c u h hu
    match j, h, hu with
    | 0, h, hu => cases h; cases hu; exact .int _ _
    | 1, h, hu => cases h; cases hu; exact .nilsl _ _ (by decide)
theorem S63 : StInfo Try.prog 63 [(0, 1), (1, 1)] [(.int .i64 0), (.sl none 2 [])] := by
  refine ⟨⟨_, Try.underlying63⟩, #[(.int .i64 0), (.slice none 0 0)], fun l => by kernel_rfl, fun w G => .agg _ _ rfl ?_ ?_⟩
  · intro j c h
    match j, h with
    | 0, h => cases h; rfl
    | 1, h => cases h; rfl
  · intro j c u h hu
    match j, h, hu with
    | 0, h, hu => cases h; cases hu; exact .int _ _
    | 1, h, hu => cases h; cases hu; exact .nilsl _ _ (by decide)
theorem Z65 : StZ Try.prog 65 [(.int .i64 0), (.sl none 2 []), (.int .i64 0)] := by
  refine ⟨⟨_, Try.underlying65⟩, ti65, #[(.int .i64 0), (.slice none 0 0), (.int .i64 0)], inf65, sz65, by kernel_rfl, fun w G => .agg _ _ rfl ?_ ?_⟩
  · intro j c h
    match j, h with
    | 0, h => cases h; rfl
    | 1, h => cases h; rfl
    | 2, h => cases h; rfl
  · intro j c u h hu
    match j, h, hu with
    | 0, h, hu => cases h; cases hu; exact .int _ _
    | 1, h, hu => cases h; cases hu; exact .nilsl _ _ (by decide)
    | 2, h, hu => cases h; cases hu; exact .int _ _
theorem E80 : ElInfo Try.prog 80 65 3 40 (.agg [(.int .i64 0), (.sl none 2 []), (.int .i64 0)]) := .of_struct Try.underlying80 Z65 (fun i h => by rw [inf65] at h; cases h; exact by65) (by simp)
theorem S65 : StInfo Try.prog 65 [(0, 2), (2, 1)] [(.int .i64 0), (.sl none 2 []), (.int .i64 0)] := by
  refine ⟨⟨_, Try.underlying65⟩, #[(.int .i64 0), (.slice none 0 0), (.int .i64 0)], fun l => by kernel_rfl, fun w G => .agg _ _ rfl ?_ ?_⟩
  · intro j c h
    match j, h with
    | 0, h => cases h; rfl
    | 1, h => cases h; rfl
    | 2, h => cases h; rfl
  · intro j c u h hu
    match j, h, hu with
    | 0, h, hu => cases h; cases hu; exact .int _ _
    | 1, h, hu => cases h; cases hu; exact .nilsl _ _ (by decide)
    | 2, h, hu => cases h; cases hu; exact .int _ _
theorem Z76 : StZ Try.prog 76 [(.sl none 1 []), (.int .i64 0)] := by
  refine ⟨⟨_, Try.underlying76⟩, ti76, #[(.slice none 0 0), (.int .i64 0)], inf76, sz76, by kernel_rfl, fun w G => .agg _ _ rfl ?_ ?_⟩
  · intro j c h
    match j, h with
    | 0, h => cases h; rfl
    | 1, h => cases h; rfl
  · intro j c u h hu
    match j, h, hu with
    | 0, h, hu => cases h; cases hu; exact .nilsl _ _ (by decide)
    | 1, h, hu => cases h; cases hu; exact .int _ _
theorem S76 : StInfo Try.prog 76 [(0, 1), (1, 1)] [(.sl none 1 []), (.int .i64 0)] := by
  refine ⟨⟨_, Try.underlying76⟩, #[(.slice none 0 0), (.int .i64 0)], fun l => by kernel_rfl, fun w G => .agg _ _ rfl ?_ ?_⟩
  · intro j c h
    match j, h with
    | 0, h => cases h; rfl
    | 1, h => cases h; rfl
  · intro j c u h hu
    match j, h, hu with
    | 0, h, hu => cases h; cases hu; exact .nilsl _ _ (by decide)
    | 1, h, hu => cases h; cases hu; exact .int _ _
end Go.Vl
