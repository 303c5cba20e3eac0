/- A slice of a row whose slices are its own held against nil. -/
import Derived.Test.YtmjbklmjehjpoacVlZ7
namespace Go.Vl
set_option linter.unusedVariables false
set_option linter.unusedSimpArgs false
open Go.RowKit

section
variable {P : Program} {C : Ctx} {Q : Go.Exit → St → Prop} {s : St} {ops : Array Oper} {rest : List Oper} {t : Nat} {ty : TypeId} {pos : String} {af : Array Edge}

/-- A slice of a row held against the literal nil. -/
theorem vo_eqnil_val {x : Operand} {T T2 el : TypeId} {nl : Option Bool} {e : Nat} {xs : List PV} (ht : Nat.blt t s.n = true) {id i : Nat} {R : TypeId} {nlr : Option Bool} {ws : List PV} {u : Value} (hx : getO s.env x = .val u) (hrow : s.rows[id]? = some (.tree R 1 nlr (some (i, some u)) ws)) (hget : ws[i]? = some (.sl nl e xs)) (hT : P.underlying T = some (.slice el))
    (next : ∀ b : Bool, (b = true → xs = []) → (nl = some true → b = true) → (nl = some false → b = false) → VO P C ops rest Q (s.put t (.pv true (.bool b)))) :
    VO P C ops (⟨some t, .binOp .eql T x (.const (.slice none 0 0)) T2, ty, pos, af, none⟩ :: rest) Q s := by
  intro a w ⟨m, hs⟩
  have hv0 : a.eval x = u := by
    have := hs.get x
    rw [hx] at this
    generalize a.eval x = v at this
    cases this
    rfl
  have hR := hs.rows id _ hrow
  have key : ∃ b : Bool, (b = true → xs = []) ∧ (nl = some true → b = true) ∧ (nl = some false → b = false) ∧ (execOp a.eval ⟨some t, .binOp .eql T x (.const (.slice none 0 0)) T2, ty, pos, af, none⟩).run P w = .ok (.value (.bool b)) w := by
    have hrun : ∀ (o : Option Addr) (l c : Nat), a.eval x = .slice o l c → (execOp a.eval ⟨some t, .binOp .eql T x (.const (.slice none 0 0)) T2, ty, pos, af, none⟩).run P w = .ok (.value (.bool o.isNone)) w := by
      intro o l c e
      have hg : (eqGuard .eql T x (.const (.slice none 0 0)) (.slice o l c) (.slice none 0 0)).run P w = .ok () w := rfl
      have heq : (Op.equal T (.slice o l c) (.slice none 0 0)).run P w = .ok o.isNone w := by
        show (Op.equalIn (9999 + 1) T (.slice o l c) (.slice none 0 0)).run P w = _
        unfold Op.equalIn
        cases o <;> simp [run_underlying hT]
      have hb : (binOp .eql T (.slice o l c) (.slice none 0 0)).run P w = .ok (.bool o.isNone) w := by
        show (do pure (Value.bool (← Op.equal T (.slice o l c) (.slice none 0 0))) : Sem Value).run P w = _
        simp [heq]
      have e3 : a.eval (.const (.slice none 0 0)) = .slice none 0 0 := rfl
      simp only [execOp, e, e3]
      simp [hg, hb]
    generalize m id = v at *
    cases hR with
    | tree mv t' e' nl' h xs' vals Sf hown h1 h2 hw hr hd hn hz hS hkn =>
      have hui : vals[i]? = some u := hkn i u rfl
      have hTP : TP w (.sl nl e xs) u (Sf i) := by
        have := (hr i (.sl nl e xs) 0 (.sl nl e xs) u hget rfl (by simpa using hui)).tpK
        simpa using this
      cases hTP with
      | scal _ _ _ hsc9 => simp [PV.scal] at hsc9
      | sl tc e nl xs v vals2 Sf2 S hown2 g1 g2 gw gr gd gn gz gS =>
        rcases hown2.2 with ⟨e0, hn0⟩ | ⟨g, cap, cur, e0, _⟩
        · refine ⟨true, fun _ => List.eq_nil_of_length_eq_zero hn0, fun _ => rfl, fun h => (g2 h e0).elim, ?_⟩
          exact hrun none 0 0 (hv0.trans e0)
        · refine ⟨false, (fun h => by cases h), (fun h => by have := g1 h; rw [e0] at this; cases this), fun _ => rfl, ?_⟩
          exact hrun (some _) _ _ (hv0.trans e0)
  obtain ⟨b, h1, h2, h3, hrun⟩ := key
  refine wpList_plain rfl fun K hK => ?_
  unfold Oper.wp
  rw [hrun, Oper.upon_value]
  exact hK _ _ (next b h1 h2 h3 _ _ ⟨m, hs.put (blt_lt ht) (.pv _ _ _ (.bool b))⟩)

end
end Go.Vl
