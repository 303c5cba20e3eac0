/- The facts on the types of this translation that the rules ask for. -/
import Derived.Test.YtfdokliebmeplaaVlTree2
import Derived.Test.YtfdokliebmeplaaVlM2
import Derived.Test.YtfdokliebmeplaaVlM3
import Derived.Test.YtfdokliebmeplaaProg
import Derived.KernelRfl
namespace Go.Vl
set_option linter.unusedVariables false
set_option linter.unusedSimpArgs false
open Go.Proofs
noncomputable def ti3 : TypeInfo := (Try.prog.info? 3).getD default
theorem inf3 : Try.prog.info? 3 = some ti3 := by kernel_rfl
theorem sz3 : ti3.size = 1 := by kernel_rfl
theorem by3 : ti3.bytes = 8 := by kernel_rfl
noncomputable def ti4 : TypeInfo := (Try.prog.info? 4).getD default
theorem inf4 : Try.prog.info? 4 = some ti4 := by kernel_rfl
theorem sz4 : ti4.size = 1 := by kernel_rfl
theorem by4 : ti4.bytes = 1 := by kernel_rfl
noncomputable def ti5 : TypeInfo := (Try.prog.info? 5).getD default
theorem inf5 : Try.prog.info? 5 = some ti5 := by kernel_rfl
theorem sz5 : ti5.size = 1 := by kernel_rfl
theorem by5 : ti5.bytes = 1 := by kernel_rfl
noncomputable def ti22 : TypeInfo := (Try.prog.info? 22).getD default
theorem inf22 : Try.prog.info? 22 = some ti22 := by kernel_rfl
theorem sz22 : ti22.size = 1 := by kernel_rfl
theorem by22 : ti22.bytes = 24 := by kernel_rfl
noncomputable def ti30 : TypeInfo := (Try.prog.info? 30).getD default
theorem inf30 : Try.prog.info? 30 = some ti30 := by kernel_rfl
theorem sz30 : ti30.size = 1 := by kernel_rfl
theorem by30 : ti30.bytes = 24 := by kernel_rfl
noncomputable def ti65 : TypeInfo := (Try.prog.info? 65).getD default
theorem inf65 : Try.prog.info? 65 = some ti65 := by kernel_rfl
theorem sz65 : ti65.size = 1 := by kernel_rfl
theorem by65 : ti65.bytes = 24 := by kernel_rfl
noncomputable def ti67 : TypeInfo := (Try.prog.info? 67).getD default
theorem inf67 : Try.prog.info? 67 = some ti67 := by kernel_rfl
theorem sz67 : ti67.size = 2 := by kernel_rfl
theorem by67 : ti67.bytes = 32 := by kernel_rfl
noncomputable def ti69 : TypeInfo := (Try.prog.info? 69).getD default
theorem inf69 : Try.prog.info? 69 = some ti69 := by kernel_rfl
theorem sz69 : ti69.size = 3 := by kernel_rfl
theorem by69 : ti69.bytes = 40 := by kernel_rfl
noncomputable def ti73 : TypeInfo := (Try.prog.info? 73).getD default
theorem inf73 : Try.prog.info? 73 = some ti73 := by kernel_rfl
theorem sz73 : ti73.size = 2 := by kernel_rfl
theorem by73 : ti73.bytes = 32 := by kernel_rfl
noncomputable def ti83 : TypeInfo := (Try.prog.info? 83).getD default
theorem inf83 : Try.prog.info? 83 = some ti83 := by kernel_rfl
theorem sz83 : ti83.size = 2 := by kernel_rfl
theorem by83 : ti83.bytes = 16 := by kernel_rfl
theorem E22 : ElInfo Try.prog 22 5 1 1 (.int .u8 0) :=
  ⟨Try.underlying22, ⟨ti5, (.int .u8 0), inf5, sz5, by5, by kernel_rfl, by kernel_rfl, fun _ _ => .int _ _⟩, fits_of rfl, by decide⟩
theorem E23 : ElInfo Try.prog 23 30 1 24 (.sl (some true) 1 []) :=
  ⟨Try.underlying23, ⟨ti30, (.slice none 0 0), inf30, sz30, by30, by kernel_rfl, by kernel_rfl, fun _ _ => .nilsl _ _ (by decide)⟩, fits_of rfl, by decide⟩
theorem E30 : ElInfo Try.prog 30 3 1 8 (.int .i64 0) :=
  ⟨Try.underlying30, ⟨ti3, (.int .i64 0), inf3, sz3, by3, by kernel_rfl, by kernel_rfl, fun _ _ => .int _ _⟩, fits_of rfl, by decide⟩
theorem E55 : ElInfo Try.prog 55 4 1 1 (.bool false) :=
  ⟨Try.underlying55, ⟨ti4, (.bool false), inf4, sz4, by4, by kernel_rfl, by kernel_rfl, fun _ _ => .bool _⟩, fits_of rfl, by decide⟩
theorem Z67 : StZ Try.prog 67 [(.int .i64 0), (.sl none 2 [])] := by
  refine ⟨⟨_, Try.underlying67⟩, ti67, #[(.int .i64 0), (.slice none 0 0)], inf67, sz67, by kernel_rfl, fun w G => .agg _ _ rfl ?_ ?_⟩
  · intro j c h
    match j, h with
    | 0, h => cases h; rfl
    | 1, h => cases h; rfl
  · intro j c u h hu
    match j, h, hu with
    | 0, h, hu => cases h; cases hu; exact .int _ _
    | 1, h, hu => cases h; cases hu; exact .nilsl _ _ (by decide)
theorem S67 : StInfo Try.prog 67 [(0, 1), (1, 1)] [(.int .i64 0), (.sl none 2 [])] := by
  refine ⟨⟨_, Try.underlying67⟩, #[(.int .i64 0), (.slice none 0 0)], fun l => by kernel_rfl, fun w G => .agg _ _ rfl ?_ ?_⟩
  · intro j c h
    match j, h with
    | 0, h => cases h; rfl
    | 1, h => cases h; rfl
  · intro j c u h hu
    match j, h, hu with
    | 0, h, hu => cases h; cases hu; exact .int _ _
    | 1, h, hu => cases h; cases hu; exact .nilsl _ _ (by decide)
theorem Z69 : StZ Try.prog 69 [(.int .i64 0), (.sl none 2 []), (.int .i64 0)] := by
  refine ⟨⟨_, Try.underlying69⟩, ti69, #[(.int .i64 0), (.slice none 0 0), (.int .i64 0)], inf69, sz69, by kernel_rfl, fun w G => .agg _ _ rfl ?_ ?_⟩
  · intro j c h
    match j, h with
    | 0, h => cases h; rfl
    | 1, h => cases h; rfl
    | 2, h => cases h; rfl
  · intro j c u h hu
    match j, h, hu with
    | 0, h, hu => cases h; cases hu; exact .int _ _
    | 1, h, hu => cases h; cases hu; exact .nilsl _ _ (by decide)
    | 2, h, hu => cases h; cases hu; exact .int _ _
theorem E63 : ElInfo Try.prog 63 69 3 40 (.agg [(.int .i64 0), (.sl none 2 []), (.int .i64 0)]) := .of_struct Try.underlying63 Z69 (fun i h => by rw [inf69] at h; cases h; exact by69) (by simp)
theorem S69 : StInfo Try.prog 69 [(0, 2), (2, 1)] [(.int .i64 0), (.sl none 2 []), (.int .i64 0)] := by
  refine ⟨⟨_, Try.underlying69⟩, #[(.int .i64 0), (.slice none 0 0), (.int .i64 0)], fun l => by kernel_rfl, fun w G => .agg _ _ rfl ?_ ?_⟩
  · intro j c h
    match j, h with
    | 0, h => cases h; rfl
    | 1, h => cases h; rfl
    | 2, h => cases h; rfl
  · intro j c u h hu
    match j, h, hu with
    | 0, h, hu => cases h; cases hu; exact .int _ _
    | 1, h, hu => cases h; cases hu; exact .nilsl _ _ (by decide)
    | 2, h, hu => cases h; cases hu; exact .int _ _
theorem Z73 : StZ Try.prog 73 [(.sl none 1 []), (.int .i64 0)] := by
  refine ⟨⟨_, Try.underlying73⟩, ti73, #[(.slice none 0 0), (.int .i64 0)], inf73, sz73, by kernel_rfl, fun w G => .agg _ _ rfl ?_ ?_⟩
  · intro j c h
    match j, h with
    | 0, h => cases h; rfl
    | 1, h => cases h; rfl
  · intro j c u h hu
    match j, h, hu with
    | 0, h, hu => cases h; cases hu; exact .nilsl _ _ (by decide)
    | 1, h, hu => cases h; cases hu; exact .int _ _
theorem S73 : StInfo Try.prog 73 [(0, 1), (1, 1)] [(.sl none 1 []), (.int .i64 0)] := by
  refine ⟨⟨_, Try.underlying73⟩, #[(.slice none 0 0), (.int .i64 0)], fun l => by kernel_rfl, fun w G => .agg _ _ rfl ?_ ?_⟩
  · intro j c h
    match j, h with
    | 0, h => cases h; rfl
    | 1, h => cases h; rfl
  · intro j c u h hu
    match j, h, hu with
    | 0, h, hu => cases h; cases hu; exact .nilsl _ _ (by decide)
    | 1, h, hu => cases h; cases hu; exact .int _ _
theorem Z83 : StZ Try.prog 83 [(.int .i64 0), (.int .i64 0)] := by
  refine ⟨⟨_, Try.underlying83⟩, ti83, #[(.int .i64 0), (.int .i64 0)], inf83, sz83, by kernel_rfl, fun w G => .agg _ _ rfl ?_ ?_⟩
  · intro j c h
    match j, h with
    | 0, h => cases h; rfl
    | 1, h => cases h; rfl
  · intro j c u h hu
    match j, h, hu with
    | 0, h, hu => cases h; cases hu; exact .int _ _
    | 1, h, hu => cases h; cases hu; exact .int _ _
theorem E65 : ElInfo Try.prog 65 83 2 16 (.agg [(.int .i64 0), (.int .i64 0)]) := .of_struct Try.underlying65 Z83 (fun i h => by rw [inf83] at h; cases h; exact by83) (by simp)
theorem S83 : StInfo Try.prog 83 [(0, 1), (1, 1)] [(.int .i64 0), (.int .i64 0)] := by
  refine ⟨⟨_, Try.underlying83⟩, #[(.int .i64 0), (.int .i64 0)], fun l => by kernel_rfl, fun w G => .agg _ _ rfl ?_ ?_⟩
  · intro j c h
    match j, h with
    | 0, h => cases h; rfl
    | 1, h => cases h; rfl
  · intro j c u h hu
    match j, h, hu with
    | 0, h, hu => cases h; cases hu; exact .int _ _
    | 1, h, hu => cases h; cases hu; exact .int _ _
end Go.Vl
