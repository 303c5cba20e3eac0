/- Ghost steps in a statement whose order is open. -/
import Derived.Test.YtmjbklmjehjpoacVlDraw2
import Derived.Test.YtmjbklmjehjpoacVlZ8
namespace Go.Vl
set_option linter.unusedVariables false
set_option linter.unusedSimpArgs false
open Go.RowKit
theorem vd_st {P : Program} {C : Ctx} {ops : Array Oper} {K : St → Prop} {s s' : St} {n : Nat} {listed : Array Bool} (h : s = s') (next : VD P C ops n listed K s') : VD P C ops n listed K s := by rw [h]; exact next
theorem vd_expose {P : Program} {C : Ctx} {ops : Array Oper} {K : St → Prop} {s : St} {n : Nat} {listed : Array Bool} (id : Nat) {el e : Nat} {nl : Option Bool} {f : Bool} {xs : List PV} (hnb : C.nb ≤ id) (hrow : s.rows[id]? = some (.own el e nl f xs))
    (next : VD P C ops n listed K ⟨s.n, exposeE id (.pv f (.sl nl e xs)) s.env, (s.rows.map (Row.expose id (.pv f (.sl nl e xs)))).set id .dead⟩) : VD P C ops n listed K s :=
  fun m a w hs => next _ a w (hs.expose hnb hrow)
theorem vd_weaken {P : Program} {C : Ctx} {ops : Array Oper} {K : St → Prop} {s : St} {n : Nat} {listed : Array Bool} (u : Nat) {e : Nat} {nl : Option Bool} {f : Bool} {xs : List PV} (hu : look s.env u = .pv f (.sl nl e xs))
    (next : VD P C ops n listed K ⟨s.n, (u, .pv f (.sl none e xs)) :: s.env, s.rows⟩) : VD P C ops n listed K s := by
  intro m a w hs
  refine next m a w { hs with env := fun q => ?_ }
  show RS _ _ _ _ (look ((u, .pv f (.sl none e xs)) :: s.env) q) _
  rw [look_cons]
  split
  · rename_i e
    subst e
    have hv := hs.env q
    rw [hu] at hv
    exact .pv _ _ _ hv.pv_inv.weaken
  · exact hs.env q
end Go.Vl
