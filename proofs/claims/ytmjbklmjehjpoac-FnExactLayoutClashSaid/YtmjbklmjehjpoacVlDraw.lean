/- Statements whose order of evaluation Go leaves open: what only reads is taken first; the calls come one behind the other. -/
import Derived.Test.YtmjbklmjehjpoacVlOps7
import Derived.Orders
namespace Go.Vl
set_option linter.unusedVariables false
set_option linter.unusedSimpArgs false
open Go.RowKit

theorem SimM.grow {C : Ctx} {s : St} {m : Nat → MV} {a : Act} {w w' : World} (hs : SimM C s m a w) (h : ExtW w w') (h1 : w'.os = w.os) (h2 : w'.tape = w.tape) (h3 : w'.output = w.output) : SimM C s m a w' := by
  have hG : ∀ f b, Gd C s.rows m w f b → Gd C s.rows m w' f b ∧ w'.heap[b]? = w.heap[b]? :=
    Gd.step (fun _ => False) h.1 (fun k hk _ => h.2 k hk) (fun _ hf => hf.elim) (fun b _ h => h)
  exact {
    defs := hs.defs
    size := hs.size
    os := h1.trans hs.os
    tape := h2.trans hs.tape
    output := h3.trans hs.output
    hsz := Nat.le_trans hs.hsz h.1
    old := fun k hk hn => (h.2 k (by have := hs.hsz; omega)).trans (hs.old k hk hn)
    bor := hs.bor
    nbl := hs.nbl
    newb := hs.newb
    dist := hs.dist
    rows := fun id r hr => RowOK.mono hG (Nat.le_refl _) (fun _ _ => rfl) (hs.rows id r hr) (fun hl b hb => h.2 b (hs.lt ⟨r, hr, hl⟩ hb))
    env := fun u => (hs.env u).mono hG (Nat.le_refl _) (fun _ _ => rfl) }

section
variable {P : Program} {ops : Array Oper} {Q : Go.Exit → Act → World → Prop}

/-- Whatever order is picked; and each step leaves all that was there as it was. -/
def anyE (P : Program) (ops : Array Oper) (Q : Go.Exit → Act → World → Prop) : Nat → Array Bool → Act → World → Prop
  | 0, listed, a, w => Region.ready .any ops listed = [] ∧ Q .normal a w
  | n + 1, listed, a, w => (Region.ready .any ops listed = [] → Q .normal a w) ∧
      ∀ i ∈ Region.ready .any ops listed, wpOp P ops Q i (fun a' w' => ExtW w w' ∧ anyE P ops Q n (listed.setIfInBounds i true) a' w') a w

theorem any_of_anyE : ∀ (n : Nat) (listed : Array Bool) (a : Act) (w : World), anyE P ops Q n listed a w → wpAny P .any ops Q n listed a w
  | 0, _, _, _, h => h
  | n + 1, _, _, _, h => ⟨h.1, fun i hi => wpOp_mono (fun a' w' h' => any_of_anyE n _ a' w' h'.2) (h.2 i hi)⟩

def yieldsE (P : Program) (ops : Array Oper) (o : Oper) (v : Value) (a : Act) (w : World) : Prop :=
  (Region.wanted o (yielded ops a.tmps) = true ∧ ∀ w', ExtW w w' → (execOp a.eval o).run P w' = .ok (.value v) w') ∨ (Region.wanted o (yielded ops a.tmps) = false ∧ v = undef)

theorem yieldsE.step {o : Oper} {v : Value} {a a' : Act} {w w' : World} (h : yieldsE P ops o v a w) (hx : ExtW w w') (he : execOp a'.eval o = execOp a.eval o)
    (hw : Region.wanted o (yielded ops a'.tmps) = Region.wanted o (yielded ops a.tmps)) : yieldsE P ops o v a' w' := by
  unfold yieldsE at *
  rw [he, hw]
  exact h.imp (fun h => ⟨h.1, fun w2 h2 => h.2 w2 (hx.trans h2)⟩) id

theorem yieldsE.op {i : Nat} {o : Oper} {v : Value} {a : Act} {w : World} (hi : ops[i]? = some o) (hy : yieldsE P ops o v a w) {K : Act → World → Prop} (h : K (a.put o.dst v) w) : wpOp P ops Q i K a w := by
  unfold wpOp
  simp only [hi]
  rcases hy with ⟨hw, hv⟩ | ⟨hw, rfl⟩
  · simp only [hw, if_true, Oper.wp, hv w (ExtW.refl w), Oper.upon]; exact .inl h
  · simp only [hw, Bool.false_eq_true, if_false]; exact h

/-- Another operation first: what only reads yields the same behind it. -/
theorem op_before {j : Nat} {oi oj : Oper} {v : Value} (hj : ops[j]? = some oj) (hap : oi.apart ops oj = true) (hsi : ∀ cs b, oi.op ≠ .select cs b) (hsj : ∀ cs b, oj.op ≠ .select cs b)
    (hQ : ∀ c a w, ¬ Q (.panic c) a w) {K : Act → World → Prop} {a : Act} {w : World} (hK : ∀ a' w', K a' w' → ExtW w w') (hy : yieldsE P ops oi v a w) (h : wpOp P ops Q j K (a.put oi.dst v) w) :
    wpOp P ops Q j (fun a' w' => yieldsE P ops oi v a' w' ∧ K (a'.put oi.dst v) w') a w := by
  obtain ⟨h1, h2, h3⟩ := Oper.apart_spec hap
  have keep : ∀ (u : Value) (w' : World), ExtW w w' → yieldsE P ops oi v (a.put oj.dst u) w' := fun u w' hx => hy.step hx (execOp_put oi hsi a oj.dst u h3) (wanted_put oi a oj.dst u h3)
  have fin : ∀ (u : Value) (w' : World), K ((a.put oi.dst v).put oj.dst u) w' → yieldsE P ops oi v (a.put oj.dst u) w' ∧ K ((a.put oj.dst u).put oi.dst v) w' := by
    intro u w' hk
    exact ⟨keep u w' (hK _ _ hk), by rw [← Act.put_comm a v u h2]; exact hk⟩
  unfold wpOp at *
  simp only [hj] at *
  rw [wanted_put oj a oi.dst v h1] at h
  by_cases hw : Region.wanted oj (yielded ops a.tmps) = true
  · rw [if_pos hw] at h ⊢
    rcases h with h | ⟨hasks, hlets⟩
    · left
      unfold Oper.wp at *
      rw [execOp_put oj hsj a oi.dst v h1] at h
      generalize (execOp a.eval oj).run P w = r at *
      cases r with
      | ok n w' =>
        cases n with
        | value u => exact fin u w' h
        | skip => exact fin undef w' h
        | defer d =>
          simp only [Oper.upon] at h ⊢
          have hx := hK _ _ h
          refine ⟨?_, by rw [← Act.put_comm _ v undef h2, ← Act.put_defers]; exact h⟩
          have hy1 : yieldsE P ops oi v { a with defers := d :: a.defers } w := hy.step (ExtW.refl w) rfl rfl
          exact hy1.step hx (execOp_put oi hsi _ oj.dst undef h3) (wanted_put oi _ oj.dst undef h3)
        | enter f args =>
          simp only [Oper.upon] at h ⊢
          refine h.mono fun e w'' he => ?_
          cases e with
          | returned u => exact fin u w'' he
          | panicked c => exact (hQ _ _ _ he).elim
          | outgrown => exact he
        | row row args => exact Rows.mono h fun u w'' he => fin u w'' he
        | _ => exact h
      | halt x w' =>
        cases x <;> simp only [Oper.upon] at h ⊢
        exact (hQ _ _ _ h).elim
    · right
      refine ⟨?_, hlets⟩
      unfold Oper.asks at *
      rw [execOp_put oj hsj a oi.dst v h1] at hasks
      exact hasks
  · rw [if_neg hw] at h ⊢
    exact fin undef w h

theorem anyE_first {i : Nat} {oi : Oper} {v : Value} (hi : ops[i]? = some oi) (hsel : ∀ (j : Nat) (o : Oper) cs b, ops[j]? = some o → o.op ≠ .select cs b) (hQ : ∀ c a w, ¬ Q (.panic c) a w) :
    ∀ (n : Nat) (listed : Array Bool) (a : Act) (w : World),
      (∀ j oj, ops[j]? = some oj → j ≠ i → listed.getD j true = false → (∀ e ∈ oj.after, Region.binds .any e = true → e.on ≠ i) → oi.apart ops oj = true) →
      i ∈ Region.ready .any ops listed → yieldsE P ops oi v a w → anyE P ops Q n (listed.setIfInBounds i true) (a.put oi.dst v) w → anyE P ops Q (n + 1) listed a w := by
  intro n
  induction n with
  | zero =>
    intro listed a w _ hr hy H
    refine ⟨fun h => (by rw [h] at hr; cases hr), fun j hj => ?_⟩
    by_cases hji : j = i
    · subst hji; exact hy.op hi ⟨ExtW.refl w, H⟩
    · have := ready_mono hj hji
      rw [H.1] at this
      cases this
  | succ n ih =>
    intro listed a w hfree hr hy H
    refine ⟨fun h => (by rw [h] at hr; cases hr), fun j hj => ?_⟩
    by_cases hji : j = i
    · subst hji; exact hy.op hi ⟨ExtW.refl w, H⟩
    · have g1 := H.2 j (ready_mono hj hji)
      obtain ⟨hjun, oj, hoj, hall⟩ := mem_ready.1 hj
      have hnot : ∀ e ∈ oj.after, Region.binds .any e = true → e.on ≠ i := by
        intro e he hb heq
        have l1 := hall e he hb
        have l0 := (mem_ready.1 hr).1
        rw [heq] at l1
        rcases Nat.lt_or_ge i listed.size with h' | h'
        · simp [h'] at l0 l1
          rw [l0] at l1
          cases l1
        · simp [Array.getElem?_eq_none h'] at l1
      have g2 := op_before hoj (hfree j oj hoj hji hjun hnot) (fun cs b => hsel i oi cs b hi) (fun cs b => hsel j oj cs b hoj) hQ (fun _ _ h => h.1) hy g1
      have hfree' : ∀ k ok, ops[k]? = some ok → k ≠ i → (listed.setIfInBounds j true).getD k true = false → (∀ e ∈ ok.after, Region.binds .any e = true → e.on ≠ i) → oi.apart ops ok = true := by
        intro k ok hk hki hun hno
        refine hfree k ok hk hki ?_ hno
        by_cases hjk : j = k
        · subst hjk; exact hjun
        · rw [getD_set_ne true hjk] at hun; exact hun
      refine wpOp_mono (fun a' w' g3 => ⟨g3.2.1, ih (listed.setIfInBounds j true) a' w' hfree' (ready_mono hr (Ne.symm hji)) g3.1 ?_⟩) g2
      rw [Array.setIfInBounds_comm _ _ hji]
      exact g3.2.2

end

/-- The end of such a statement. -/
def post0 (C : Ctx) (K : St → Prop) (e : Go.Exit) (a : Act) (w : World) : Prop := e = .normal ∧ ∃ s, Sim C s a w ∧ K s

def VD (P : Program) (C : Ctx) (ops : Array Oper) (n : Nat) (listed : Array Bool) (K : St → Prop) (s : St) : Prop := ∀ m a w, SimM C s m a w → anyE P ops (post0 C K) n listed a w

section
variable {P : Program} {C : Ctx} {ops : Array Oper} {K : St → Prop} {s : St} {n : Nat} {listed : Array Bool}

theorem wpOps_monoQ {Q Q' : Go.Exit → Act → World → Prop} (hq : ∀ e a w, Q e a w → Q' e a w) : ∀ (l : List Nat) (a : Act) (w : World), wpOps P ops Q l a w → wpOps P ops Q' l a w
  | [], a, w, h => hq _ _ _ h
  | i :: l, a, w, h => by
    unfold wpOps at h ⊢
    split at h
    · exact wpOps_monoQ hq l a w h
    · rename_i o ho
      by_cases hw : Region.wanted o (yielded ops a.tmps) = true
      · rw [if_pos hw] at h ⊢
        rcases h with h | ⟨h1, a2, w2, h2⟩
        · left
          unfold Oper.wp at *
          generalize (execOp a.eval o).run P w = r at *
          cases r with
          | ok x w' =>
            cases x with
            | value u => exact wpOps_monoQ hq l _ _ h
            | skip => exact wpOps_monoQ hq l _ _ h
            | defer d => exact wpOps_monoQ hq l _ _ h
            | enter f args =>
              simp only [Oper.upon] at h ⊢
              refine h.mono fun e w'' he => ?_
              cases e with
              | returned u => exact wpOps_monoQ hq l _ _ he
              | panicked c => exact hq _ _ _ he
              | outgrown => obtain ⟨a3, w3, h3⟩ := he; exact ⟨a3, w3, hq _ _ _ h3⟩
            | row row args => exact Rows.mono h fun u w'' he => wpOps_monoQ hq l _ _ he
            | _ => exact h
          | halt x w' =>
            cases x with
            | panic v => exact hq _ _ _ h
            | _ => exact h
        · exact .inr ⟨h1, a2, w2, hq _ _ _ h2⟩
      · rw [if_neg hw] at h ⊢
        exact wpOps_monoQ hq l _ _ h

theorem vc_draw {id : Nat} {Q : Go.Exit → St → Prop} (hd : Region.departs ops = false) (h : VD P C ops ops.size (Array.replicate ops.size false) (Q .normal) s) : VC P C (.region id ops true) Q s := by
  intro a w ⟨m, hs⟩
  refine wp_region_draw fun t => ?_
  simp only [Region.schedule, hd, Bool.not_false, Bool.or_true, if_true]
  refine wpOps_monoQ (Q := post0 C (Q .normal)) ?_ _ _ _ (wpAny_sound ops.size t _ a _ (any_of_anyE _ _ _ _ (h m a _ (hs.grow (w' := { w with drawn := w.drawn + 1 }) (ExtW.refl w) rfl rfl rfl))))
  rintro e a' w' ⟨rfl, s', hs', hk⟩
  exact ⟨s', hs', hk⟩

theorem post0_panic (c : List PanicEntry) (a : Act) (w : World) : ¬ post0 C K (.panic c) a w := fun h => by cases h.1

/-- Is the operation carried out? -/
def Wnt (C : Ctx) (ops : Array Oper) (s : St) (o : Oper) (b : Bool) : Prop := ∀ m a w, SimM C s m a w → Region.wanted o (yielded ops a.tmps) = b

theorem wnt_none {o : Oper} (h : o.guard = none) : Wnt C ops s o true := fun m a w hs => by simp [Region.wanted, h]

theorem yielded_pv {m : Nat → MV} {a : Act} {w : World} (hm : SimM C s m a w) {j d : Nat} {f b : Bool} (hj : (ops[j]?).bind (·.dst) = some d) (hdn : Nat.blt d s.n = true) (hd : look s.env d = .pv f (.bool b)) : yielded ops a.tmps j = some b := by
  have hv := hm.env d
  rw [hd] at hv
  have hv := hv.pv_inv
  have hlt : d < a.tmps.size := by rw [hm.size]; exact blt_lt hdn
  unfold yielded
  rw [hj]
  simp only [Array.getD, hlt, dif_pos] at hv
  simp only [Option.bind_some, Array.getElem?_eq_getElem hlt]
  simp only [Array.getInternal_eq_getElem] at hv
  generalize a.tmps[d] = u at *
  cases hv
  rfl

theorem wnt_on {o : Oper} {j d : Nat} {want f : Bool} (hg : o.guard = some (j, want)) (hj : (ops[j]?).bind (·.dst) = some d) (hdn : Nat.blt d s.n = true) (hd : look s.env d = .pv f (.bool want)) : Wnt C ops s o true :=
  fun m a w hs => by simp [Region.wanted, hg, yielded_pv hs hj hdn hd]

theorem wnt_off {o : Oper} {j d : Nat} {want b f : Bool} (hg : o.guard = some (j, want)) (hj : (ops[j]?).bind (·.dst) = some d) (hdn : Nat.blt d s.n = true) (hd : look s.env d = .pv f (.bool b)) (hb : b = !want) : Wnt C ops s o false :=
  fun m a w hs => by simp [Region.wanted, hg, yielded_pv hs hj hdn hd, hb]

theorem wnt_und {o : Oper} {j d : Nat} {want : Bool} (hg : o.guard = some (j, want)) (hj : (ops[j]?).bind (·.dst) = some d) (hdn : Nat.blt d s.n = true) (hd : look s.env d = .und) : Wnt C ops s o false := by
  intro m a w hm
  have hv := hm.env d
  rw [hd] at hv
  have hlt : d < a.tmps.size := by rw [hm.size]; exact blt_lt hdn
  have hy : yielded ops a.tmps j = none := by
    unfold yielded
    rw [hj]
    simp only [Array.getD, hlt, dif_pos] at hv
    simp only [Option.bind_some, Array.getElem?_eq_getElem hlt]
    simp only [Array.getInternal_eq_getElem] at hv
    generalize a.tmps[d] = u at *
    cases hv
    rfl
  simp [Region.wanted, hg, hy]

/-- What only reads, taken first. -/
theorem vd_light (i : Nat) {o : Oper} {t : Nat} {sv : SV} (hi : ops[i]? = some o) (hd : o.dst = some t) (ht : Nat.blt t s.n = true) (hr : (Region.ready .any ops listed).contains i = true) (hns : Region.noSelect ops = true)
    (hf : Region.free .any ops listed i = true) (hw : Wnt C ops s o true) (hl : Lt P C s { o with guard := none } sv) (next : VD P C ops n (listed.setIfInBounds i true) K (s.put t sv)) : VD P C ops (n + 1) listed K s := by
  intro m a w hs
  obtain ⟨v, hrun, hv⟩ := hl m a w hs
  refine anyE_first hi (Region.noSelect_spec hns) post0_panic n listed a w (Region.free_spec hi hf) (by simpa using hr) (.inl ⟨hw m a w hs, hrun⟩) ?_
  rw [hd]
  exact next m _ _ (hs.put (blt_lt ht) hv)

theorem vd_skip (i : Nat) {o : Oper} {t : Nat} (hi : ops[i]? = some o) (hd : o.dst = some t) (ht : Nat.blt t s.n = true) (hr : (Region.ready .any ops listed).contains i = true) (hns : Region.noSelect ops = true)
    (hf : Region.free .any ops listed i = true) (hw : Wnt C ops s o false) (next : VD P C ops n (listed.setIfInBounds i true) K (s.put t .und)) : VD P C ops (n + 1) listed K s := by
  intro m a w hs
  refine anyE_first hi (Region.noSelect_spec hns) post0_panic n listed a w (Region.free_spec hi hf) (by simpa using hr) (.inr ⟨hw m a w hs, rfl⟩) ?_
  rw [hd]
  exact next m _ _ (hs.put (blt_lt ht) .und)

theorem vd_nil (hr : Region.ready .any ops listed = []) (h : K s) : VD P C ops n listed K s := by
  intro m a w hs
  have hq : post0 C K .normal a w := ⟨rfl, s, ⟨m, hs⟩, h⟩
  cases n with
  | zero => exact ⟨hr, hq⟩
  | succ n => exact ⟨fun _ => hq, by rw [hr]; simp⟩

theorem vd_split (d : Nat) {f b : Bool} (hd : look s.env d = .pv f (.bool b)) (h1 : b = true → VD P C ops n listed K { s with env := (d, .pv true (.bool true)) :: s.env })
    (h2 : b = false → VD P C ops n listed K { s with env := (d, .pv true (.bool false)) :: s.env }) : VD P C ops n listed K s := by
  intro m a w hs
  have hv := hs.env d
  rw [hd] at hv
  have key : ∀ b', b = b' → SimM C { s with env := (d, .pv true (.bool b')) :: s.env } m a w := by
    intro b' e
    subst e
    have henv : ∀ u, RS w (Gd C s.rows m w) m s.rows.length (look ((d, .pv true (.bool b)) :: s.env) u) (a.tmps.getD u undef) := by
      intro u
      rw [look_put]
      split
      · rename_i e
        subst e
        have := hv.pv_inv
        exact .pv _ _ _ (this.scal_any rfl)
      · exact hs.env u
    exact ⟨hs.defs, hs.size, hs.os, hs.tape, hs.output, hs.hsz, hs.old, hs.bor, hs.nbl, hs.newb, hs.dist, hs.rows, henv⟩
  cases hb : b with
  | true => exact h1 hb m a w (key true hb)
  | false => exact h2 hb m a w (key false hb)


/-- A call, when nothing else can come next. -/
theorem vd_call (i : Nat) {t : Nat} {ty : TypeId} {pos : String} {af : Array Edge} {gd : Option (Nat × Bool)} {f : FuncId} {fn : Func} {xs : Array Operand} {Ts : Array TypeId} {args : List SV} {R : List SV → List Row → Prop}
    (hi : ops[i]? = some ⟨some t, .call ⟨.value (.func f), xs, Ts⟩, ty, pos, af, gd⟩) (hr : Region.ready .any ops listed = [i]) (hw : Wnt C ops s ⟨some t, .call ⟨.value (.func f), xs, Ts⟩, ty, pos, af, gd⟩ true)
    (hf : P.funcs[f]? = some fn) (hnm : (fn.name == "runtime.NumGoroutine") = false) (hbd : fn.body.isNone = false) (ht : Nat.blt t s.n = true)
    (hargs : (xs.toList.map (getO s.env)).mapM (argOf s.rows) = some args) (hsat : SatAt P f args [] R)
    (next : ∀ res rows', R res rows' → rows' = [] ∧ res.all SV.isPv = true ∧ (((xs.toList.map (getO s.env)).any SV.isRef = false) ∨ res.all SV.fresh = true) ∧ VD P C ops n (listed.setIfInBounds i true) K (s.put t (packS res))) :
    VD P C ops (n + 1) listed K s := by
  intro m a w hs
  refine ⟨fun h => (by rw [hr] at h; cases h), fun j hj => ?_⟩
  rw [hr] at hj
  simp at hj
  subst hj
  unfold wpOp
  simp only [hi]
  rw [if_pos (hw m a w hs)]
  left
  exact ow_call0 hs hf hnm hbd ht hargs hsat (fun res rows' hR => let ⟨h1, h2, h3, _⟩ := next res rows' hR; ⟨h1, h2, h3⟩)
    (fun res a' w' hR hx hs' => ⟨hx, (next res [] hR).2.2.2 m a' w' hs'⟩)

end
end Go.Vl
