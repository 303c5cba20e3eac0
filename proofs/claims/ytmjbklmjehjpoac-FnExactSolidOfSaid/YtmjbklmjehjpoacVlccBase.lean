/- The facts on the types of this translation that the rules ask for. -/
import Derived.Test.YtmjbklmjehjpoacVlZ3
import Derived.Test.YtmjbklmjehjpoacVlM2
import Derived.Test.YtmjbklmjehjpoacVlM4
import Derived.Test.YtmjbklmjehjpoacProg
import Derived.KernelRfl
namespace Go.Vl
set_option linter.unusedVariables false
set_option linter.unusedSimpArgs false
open Go.Proofs
noncomputable def ti3 : TypeInfo := (Try.prog.info? 3).getD default
theorem inf3 : Try.prog.info? 3 = some ti3 := by kernel_rfl
theorem sz3 : ti3.size = 1 := by kernel_rfl
theorem by3 : ti3.bytes = 8 := by kernel_rfl
noncomputable def ti4 : TypeInfo := (Try.prog.info? 4).getD default
theorem inf4 : Try.prog.info? 4 = some ti4 := by kernel_rfl
theorem sz4 : ti4.size = 1 := by kernel_rfl
theorem by4 : ti4.bytes = 1 := by kernel_rfl
noncomputable def ti5 : TypeInfo := (Try.prog.info? 5).getD default
theorem inf5 : Try.prog.info? 5 = some ti5 := by kernel_rfl
theorem sz5 : ti5.size = 1 := by kernel_rfl
theorem by5 : ti5.bytes = 1 := by kernel_rfl
noncomputable def ti28 : TypeInfo := (Try.prog.info? 28).getD default
theorem inf28 : Try.prog.info? 28 = some ti28 := by kernel_rfl
theorem sz28 : ti28.size = 1 := by kernel_rfl
theorem by28 : ti28.bytes = 24 := by kernel_rfl
noncomputable def ti37 : TypeInfo := (Try.prog.info? 37).getD default
theorem inf37 : Try.prog.info? 37 = some ti37 := by kernel_rfl
theorem sz37 : ti37.size = 1 := by kernel_rfl
theorem by37 : ti37.bytes = 24 := by kernel_rfl
noncomputable def ti41 : TypeInfo := (Try.prog.info? 41).getD default
theorem inf41 : Try.prog.info? 41 = some ti41 := by kernel_rfl
theorem sz41 : ti41.size = 1 := by kernel_rfl
theorem by41 : ti41.bytes = 24 := by kernel_rfl
noncomputable def ti53 : TypeInfo := (Try.prog.info? 53).getD default
theorem inf53 : Try.prog.info? 53 = some ti53 := by kernel_rfl
theorem sz53 : ti53.size = 2 := by kernel_rfl
theorem by53 : ti53.bytes = 32 := by kernel_rfl
noncomputable def ti55 : TypeInfo := (Try.prog.info? 55).getD default
theorem inf55 : Try.prog.info? 55 = some ti55 := by kernel_rfl
theorem sz55 : ti55.size = 3 := by kernel_rfl
theorem by55 : ti55.bytes = 40 := by kernel_rfl
noncomputable def ti59 : TypeInfo := (Try.prog.info? 59).getD default
theorem inf59 : Try.prog.info? 59 = some ti59 := by kernel_rfl
theorem sz59 : ti59.size = 2 := by kernel_rfl
theorem by59 : ti59.bytes = 16 := by kernel_rfl
noncomputable def ti80 : TypeInfo := (Try.prog.info? 80).getD default
theorem inf80 : Try.prog.info? 80 = some ti80 := by kernel_rfl
theorem sz80 : ti80.size = 2 := by kernel_rfl
theorem by80 : ti80.bytes = 32 := by kernel_rfl
theorem E22 : ElInfo Try.prog 22 37 1 24 (.sl (some true) 1 []) :=
  ⟨Try.underlying22, ⟨ti37, (.slice none 0 0), inf37, sz37, by37, by kernel_rfl, by kernel_rfl, fun _ _ => .nilsl _ _ (by decide)⟩, fits_of rfl, by decide⟩
theorem E37 : ElInfo Try.prog 37 3 1 8 (.int .i64 0) :=
  ⟨Try.underlying37, ⟨ti3, (.int .i64 0), inf3, sz3, by3, by kernel_rfl, by kernel_rfl, fun _ _ => .int _ _⟩, fits_of rfl, by decide⟩
theorem E41 : ElInfo Try.prog 41 5 1 1 (.int .u8 0) :=
  ⟨Try.underlying41, ⟨ti5, (.int .u8 0), inf5, sz5, by5, by kernel_rfl, by kernel_rfl, fun _ _ => .int _ _⟩, fits_of rfl, by decide⟩
theorem E65 : ElInfo Try.prog 65 4 1 1 (.bool false) :=
  ⟨Try.underlying65, ⟨ti4, (.bool false), inf4, sz4, by4, by kernel_rfl, by kernel_rfl, fun _ _ => .bool _⟩, fits_of rfl, by decide⟩
theorem Z53 : StZ Try.prog 53 [(.int .i64 0), (.sl none 2 [])] := by
  refine ⟨⟨_, Try.underlying53⟩, ti53, #[(.int .i64 0), (.slice none 0 0)], inf53, sz53, by kernel_rfl, fun w G => .agg _ _ rfl ?_ ?_⟩
  · intro j c h
    match j, h with
    | 0, h => cases h; rfl
    | 1, h => cases h; rfl
  · intro j c u h hu
    match j, h, hu with
    | 0, h, hu => cases h; cases hu; exact .int _ _
    | 1, h, hu => cases h; cases hu; exact .nilsl _ _ (by decide)
theorem S53 : StInfo Try.prog 53 [(0, 1), (1, 1)] [(.int .i64 0), (.sl none 2 [])] := by
  refine ⟨⟨_, Try.underlying53⟩, #[(.int .i64 0), (.slice none 0 0)], fun l => by kernel_rfl, fun w G => .agg _ _ rfl ?_ ?_⟩
  · intro j c h
    match j, h with
    | 0, h => cases h; rfl
    | 1, h => cases h; rfl
  · intro j c u h hu
    match j, h, hu with
    | 0, h, hu => cases h; cases hu; exact .int _ _
    | 1, h, hu => cases h; cases hu; exact .nilsl _ _ (by decide)
theorem Z55 : StZ Try.prog 55 [(.int .i64 0), (.sl none 2 []), (.int .i64 0)] := by
  refine ⟨⟨_, Try.underlying55⟩, ti55, #[(.int .i64 0), (.slice none 0 0), (.int .i64 0)], inf55, sz55, by kernel_rfl, fun w G => .agg _ _ rfl ?_ ?_⟩
  · intro j c h
    match j, h with
    | 0, h => cases h; rfl
    | 1, h => cases h; rfl
    | 2, h => cases h; rfl
  · intro j c u h hu
    match j, h, hu with
    | 0, h, hu => cases h; cases hu; exact .int _ _
    | 1, h, hu => cases h; cases hu; exact .nilsl _ _ (by decide)
    | 2, h, hu => cases h; cases hu; exact .int _ _
theorem E62 : ElInfo Try.prog 62 55 3 40 (.agg [(.int .i64 0), (.sl none 2 []), (.int .i64 0)]) := .of_struct Try.underlying62 Z55 (fun i h => by rw [inf55] at h; cases h; exact by55) (by simp)
theorem S55 : StInfo Try.prog 55 [(0, 2), (2, 1)] [(.int .i64 0), (.sl none 2 []), (.int .i64 0)] := by
  refine ⟨⟨_, Try.underlying55⟩, #[(.int .i64 0), (.slice none 0 0), (.int .i64 0)], fun l => by kernel_rfl, fun w G => .agg _ _ rfl ?_ ?_⟩
  · intro j c h
    match j, h with
    | 0, h => cases h; rfl
    | 1, h => cases h; rfl
    | 2, h => cases h; rfl
  · intro j c u h hu
    match j, h, hu with
    | 0, h, hu => cases h; cases hu; exact .int _ _
    | 1, h, hu => cases h; cases hu; exact .nilsl _ _ (by decide)
    | 2, h, hu => cases h; cases hu; exact .int _ _
theorem Z59 : StZ Try.prog 59 [(.int .i64 0), (.int .i64 0)] := by
  refine ⟨⟨_, Try.underlying59⟩, ti59, #[(.int .i64 0), (.int .i64 0)], inf59, sz59, by kernel_rfl, fun w G => .agg _ _ rfl ?_ ?_⟩
  · intro j c h
    match j, h with
    | 0, h => cases h; rfl
    | 1, h => cases h; rfl
  · intro j c u h hu
    match j, h, hu with
    | 0, h, hu => cases h; cases hu; exact .int _ _
    | 1, h, hu => cases h; cases hu; exact .int _ _
theorem E28 : ElInfo Try.prog 28 59 2 16 (.agg [(.int .i64 0), (.int .i64 0)]) := .of_struct Try.underlying28 Z59 (fun i h => by rw [inf59] at h; cases h; exact by59) (by simp)
theorem S59 : StInfo Try.prog 59 [(0, 1), (1, 1)] [(.int .i64 0), (.int .i64 0)] := by
  refine ⟨⟨_, Try.underlying59⟩, #[(.int .i64 0), (.int .i64 0)], fun l => by kernel_rfl, fun w G => .agg _ _ rfl ?_ ?_⟩
  · intro j c h
    match j, h with
    | 0, h => cases h; rfl
    | 1, h => cases h; rfl
  · intro j c u h hu
    match j, h, hu with
    | 0, h, hu => cases h; cases hu; exact .int _ _
    | 1, h, hu => cases h; cases hu; exact .int _ _
theorem Z80 : StZ Try.prog 80 [(.sl none 1 []), (.int .i64 0)] := by
  refine ⟨⟨_, Try.underlying80⟩, ti80, #[(.slice none 0 0), (.int .i64 0)], inf80, sz80, by kernel_rfl, fun w G => .agg _ _ rfl ?_ ?_⟩
  · intro j c h
    match j, h with
    | 0, h => cases h; rfl
    | 1, h => cases h; rfl
  · intro j c u h hu
    match j, h, hu with
    | 0, h, hu => cases h; cases hu; exact .nilsl _ _ (by decide)
    | 1, h, hu => cases h; cases hu; exact .int _ _
theorem S80 : StInfo Try.prog 80 [(0, 1), (1, 1)] [(.sl none 1 []), (.int .i64 0)] := by
  refine ⟨⟨_, Try.underlying80⟩, #[(.slice none 0 0), (.int .i64 0)], fun l => by kernel_rfl, fun w G => .agg _ _ rfl ?_ ?_⟩
  · intro j c h
    match j, h with
    | 0, h => cases h; rfl
    | 1, h => cases h; rfl
  · intro j c u h hu
    match j, h, hu with
    | 0, h, hu => cases h; cases hu; exact .nilsl _ _ (by decide)
    | 1, h, hu => cases h; cases hu; exact .int _ _
end Go.Vl
