/- The rules by which a function's code is gone through: what each statement and operation asks, said of values without memory. -/
import Derived.Test.YtmjbklmjehjpoacVlCore
namespace Go.Vl
set_option linter.unusedVariables false
set_option linter.unusedSimpArgs false
open Go.RowKit

def post (C : Ctx) (Q : Go.Exit → St → Prop) (e : Go.Exit) (a : Act) (w : World) : Prop := ∃ s, Sim C s a w ∧ Q e s

def VC (P : Program) (C : Ctx) (c : Code) (Q : Go.Exit → St → Prop) (s : St) : Prop := ∀ a w, Sim C s a w → c.wp P (post C Q) a w

def VO (P : Program) (C : Ctx) (ops : Array Oper) (l : List Oper) (Q : Go.Exit → St → Prop) (s : St) : Prop := ∀ a w, Sim C s a w → wpList P ops (post C Q) l a w

abbrev thn (K : St → Prop) (Q : Go.Exit → St → Prop) : Go.Exit → St → Prop
  | .normal, s => K s
  | e, s => Q e s

abbrev inB (id : Nat) (Q : Go.Exit → St → Prop) : Go.Exit → St → Prop
  | .exit i, s => bif Nat.beq i id then Q .normal s else Q (.exit i) s
  | e, s => Q e s

theorem blt_lt {a b : Nat} (h : Nat.blt a b = true) : a < b := Nat.le_of_ble_eq_true h

section
variable {P : Program} {C : Ctx} {Q : Go.Exit → St → Prop} {s : St}

theorem vc_seq {x y : Code} (h : ∀ K : St → Prop, (∀ s, VC P C y Q s → K s) → VC P C x (thn K Q) s) : VC P C (.seq x y) Q s := by
  intro a w hs
  refine wp_seq (wp_mono (h (VC P C y Q) (fun _ h => h) a w hs) ?_)
  rintro e a' w' ⟨s', hs', hq⟩
  cases e with
  | normal => exact hq a' w' hs'
  | _ => exact ⟨s', hs', hq⟩

theorem vc_skip (h : Q .normal s) : VC P C .skip Q s := fun a w hs => wp_skip ⟨s, hs, h⟩
theorem vc_exit {id : Nat} (h : Q (.exit id) s) : VC P C (.exit id) Q s := fun a w hs => wp_exit ⟨s, hs, h⟩
theorem vc_ret (h : Q .ret s) : VC P C .ret Q s := fun a w hs => wp_ret ⟨s, hs, h⟩

theorem vc_block {id : Nat} {c : Code} (h : VC P C c (inB id Q) s) : VC P C (.block id c) Q s := by
  intro a w hs
  refine wp_block (wp_mono (h a w hs) ?_)
  rintro e a' w' ⟨s', hs', hq⟩
  cases e with
  | exit i =>
    simp only [Go.Exit.inBlock]
    simp only [inB] at hq
    by_cases e : i = id
    · rw [if_pos e]
      have e1 : Nat.beq i id = true := by rw [e]; exact Nat.beq_refl id
      rw [e1] at hq
      exact ⟨s', hs', hq⟩
    · rw [if_neg e]
      have e1 : Nat.beq i id = false := by
        cases h : Nat.beq i id with
        | false => rfl
        | true => exact (e (Nat.eq_of_beq_eq_true h)).elim
      rw [e1] at hq
      exact ⟨s', hs', hq⟩
  | _ => exact ⟨s', hs', hq⟩

theorem vc_region {id : Nat} {l : List Oper} (h : VO P C l.toArray l Q s) : VC P C (.region id l.toArray false) Q s :=
  fun a w hs => wp_region_lit (h a w hs)

def getO (e : List (Nat × SV)) : Operand → SV
  | .tmp t => look e t
  | .const (.int k n) => .pv true (.int k n)
  | .const (.bool b) => .pv true (.bool b)
  | .const (.string s) => .pv true (.str s)
  | .const (.slice none 0 0) => .pv true (.sl (some true) 0 [])
  | _ => .any

theorem SimM.get {m : Nat → MV} {a : Act} {w : World} (h : SimM C s m a w) (x : Operand) : RS w (Gd C s.rows m w) m s.rows.length (getO s.env x) (a.eval x) := by
  unfold getO
  split
  · exact h.env _
  · exact .pv _ _ _ (.int _ _)
  · exact .pv _ _ _ (.bool _)
  · exact .pv _ _ _ (.str _)
  · exact .pv _ _ _ (.nilsl _ _ (by simp))
  · exact .any _

theorem vc_cond {c : Operand} {x y : Code} {fr : Bool} {t : Bool} (hc : getO s.env c = .pv fr (.bool t)) (h1 : t = true → VC P C x Q s) (h2 : t = false → VC P C y Q s) :
    VC P C (.cond c x y) Q s := by
  intro a w ⟨m, hs⟩
  have hv := hs.get c
  rw [hc] at hv
  have he : a.eval c = .bool t := by
    generalize a.eval c = v at hv
    cases hv with
    | pv _ _ _ h => cases h; rfl
  exact wp_cond_split he (fun e => h1 e a w ⟨m, hs⟩) (fun e => h2 e a w ⟨m, hs⟩)

theorem vo_nil {ops : Array Oper} (h : Q .normal s) : VO P C ops [] Q s := fun a w hs => ⟨s, hs, h⟩

/-- An operation that hands back a value. -/
theorem vo_value {ops : Array Oper} {rest : List Oper} {t : Nat} {op : Op} {ty : TypeId} {pos : String} {af : Array Edge} {s1 : St} {sv : SV} (ht : Nat.blt t s1.n = true)
    (hrun : ∀ m a w, SimM C s m a w → ∃ v w' m', (execOp a.eval ⟨some t, op, ty, pos, af, none⟩).run P w = .ok (.value v) w' ∧ SimM C s1 m' a w' ∧ RS w' (Gd C s1.rows m' w') m' s1.rows.length sv v)
    (next : VO P C ops rest Q (s1.put t sv)) : VO P C ops (⟨some t, op, ty, pos, af, none⟩ :: rest) Q s := by
  intro a w ⟨m, hs⟩
  obtain ⟨v, w', m', hr, hs', hv⟩ := hrun m a w hs
  refine wpList_plain rfl fun K hK => ?_
  unfold Oper.wp
  rw [hr, Oper.upon_value]
  exact hK _ _ (next _ _ ⟨m', hs'.put (blt_lt ht) hv⟩)

/-- All that was there is there as it was. -/
def ExtW (w w' : World) : Prop := w.heap.size ≤ w'.heap.size ∧ ∀ k, k < w.heap.size → w'.heap[k]? = w.heap[k]?

theorem ExtW.refl (w : World) : ExtW w w := ⟨Nat.le_refl _, fun _ _ => rfl⟩
theorem ExtW.trans {a b c : World} (h : ExtW a b) (k : ExtW b c) : ExtW a c := ⟨Nat.le_trans h.1 k.1, fun i hi => (k.2 i (Nat.lt_of_lt_of_le hi h.1)).trans (h.2 i hi)⟩
theorem ExtW.cell {w w' : World} (h : ExtW w w') {a : Addr} {v : Value} (hc : w.cell? a = some v) : w'.cell? a = some v := by
  have hlt : a.block < w.heap.size := by
    rcases Nat.lt_or_ge a.block w.heap.size with h | h
    · exact h
    · unfold World.cell? at hc
      rw [Array.getElem?_eq_none h] at hc
      cases hc
  rw [← hc]
  simp [World.cell?, h.2 _ hlt]

/-- An operation that only reads: it yields the same however the world has grown. -/
def Lt (P : Program) (C : Ctx) (s : St) (o : Oper) (sv : SV) : Prop :=
  ∀ m a w, SimM C s m a w → ∃ v, (∀ w', ExtW w w' → (execOp a.eval o).run P w' = .ok (.value v) w') ∧ RS w (Gd C s.rows m w) m s.rows.length sv v

/-- The same where the world stays as it is. -/
theorem vo_pure {ops : Array Oper} {rest : List Oper} {t : Nat} {op : Op} {ty : TypeId} {pos : String} {af : Array Edge} {sv : SV} (ht : Nat.blt t s.n = true)
    (hrun : Lt P C s ⟨some t, op, ty, pos, af, none⟩ sv)
    (next : VO P C ops rest Q (s.put t sv)) : VO P C ops (⟨some t, op, ty, pos, af, none⟩ :: rest) Q s :=
  vo_value ht (fun m a w hs => let ⟨v, hr, hv⟩ := hrun m a w hs; ⟨v, w, m, hr w (ExtW.refl w), hs, hv⟩) next

section
variable {ops : Array Oper} {rest : List Oper} {t : Nat} {ty : TypeId} {pos : String} {af : Array Edge}

theorem lt_move {x : Operand} : Lt P C s ⟨some t, .move x, ty, pos, af, none⟩ (getO s.env x) := fun m a w hs => ⟨a.eval x, fun _ _ => rfl, hs.get x⟩
theorem lt_assign {x : Operand} : Lt P C s ⟨some t, .assign x, ty, pos, af, none⟩ (getO s.env x) := fun m a w hs => ⟨a.eval x, fun _ _ => rfl, hs.get x⟩

theorem lt_move_pv {x : Operand} {f : Bool} {p : PV} (hx : getO s.env x = .pv f p) : Lt P C s ⟨some t, .move x, ty, pos, af, none⟩ (.pv f p) := by rw [← hx]; exact lt_move
theorem lt_move_ref {x : Operand} {id : Nat} (hx : getO s.env x = .ref id) : Lt P C s ⟨some t, .move x, ty, pos, af, none⟩ (.ref id) := by rw [← hx]; exact lt_move
theorem lt_assign_pv {x : Operand} {f : Bool} {p : PV} (hx : getO s.env x = .pv f p) : Lt P C s ⟨some t, .assign x, ty, pos, af, none⟩ (.pv f p) := by rw [← hx]; exact lt_assign
theorem lt_assign_ref {x : Operand} {id : Nat} (hx : getO s.env x = .ref id) : Lt P C s ⟨some t, .assign x, ty, pos, af, none⟩ (.ref id) := by rw [← hx]; exact lt_assign

theorem vo_move {x : Operand} (ht : Nat.blt t s.n = true) (next : VO P C ops rest Q (s.put t (getO s.env x))) : VO P C ops (⟨some t, .move x, ty, pos, af, none⟩ :: rest) Q s :=
  vo_pure ht lt_move next

theorem vo_move_pv {x : Operand} {f : Bool} {p : PV} (ht : Nat.blt t s.n = true) (hx : getO s.env x = .pv f p) (next : VO P C ops rest Q (s.put t (.pv f p))) : VO P C ops (⟨some t, .move x, ty, pos, af, none⟩ :: rest) Q s :=
  vo_move ht (by rw [hx]; exact next)

theorem vo_move_ref {x : Operand} {id : Nat} (ht : Nat.blt t s.n = true) (hx : getO s.env x = .ref id) (next : VO P C ops rest Q (s.put t (.ref id))) : VO P C ops (⟨some t, .move x, ty, pos, af, none⟩ :: rest) Q s :=
  vo_move ht (by rw [hx]; exact next)

theorem vo_assign {x : Operand} (ht : Nat.blt t s.n = true) (next : VO P C ops rest Q (s.put t (getO s.env x))) : VO P C ops (⟨some t, .assign x, ty, pos, af, none⟩ :: rest) Q s :=
  vo_pure ht lt_assign next

theorem vo_assign_pv {x : Operand} {f : Bool} {p : PV} (ht : Nat.blt t s.n = true) (hx : getO s.env x = .pv f p) (next : VO P C ops rest Q (s.put t (.pv f p))) : VO P C ops (⟨some t, .assign x, ty, pos, af, none⟩ :: rest) Q s :=
  vo_assign ht (by rw [hx]; exact next)

theorem vo_assign_ref {x : Operand} {id : Nat} (ht : Nat.blt t s.n = true) (hx : getO s.env x = .ref id) (next : VO P C ops rest Q (s.put t (.ref id))) : VO P C ops (⟨some t, .assign x, ty, pos, af, none⟩ :: rest) Q s :=
  vo_assign ht (by rw [hx]; exact next)

theorem lt_extract {x : Operand} {vs : List SV} {i : Nat} {v : SV} (hx : getO s.env x = .tup vs) (hi : vs[i]? = some v) : Lt P C s ⟨some t, .extract x i, ty, pos, af, none⟩ v := by
  intro m a w hs
  have hv := hs.get x
  rw [hx] at hv
  generalize hav : a.eval x = u at hv
  cases hv with
  | tup _ us hl h =>
    have hlt : i < us.size := by rw [hl]; exact (List.getElem?_eq_some_iff.1 hi).1
    have hu : us[i]? = some us[i] := Array.getElem?_eq_getElem hlt
    exact ⟨us[i], fun _ _ => by simp [execOp, hav, Instr.extract, hu], h i v _ hi hu⟩

theorem vo_extract {x : Operand} {vs : List SV} {i : Nat} {v : SV} (ht : Nat.blt t s.n = true) (hx : getO s.env x = .tup vs) (hi : vs[i]? = some v) (next : VO P C ops rest Q (s.put t v)) :
    VO P C ops (⟨some t, .extract x i, ty, pos, af, none⟩ :: rest) Q s := vo_pure ht (lt_extract hx hi) next

theorem RS.pv_inv {w : World} {G : Bool → Nat → Prop} {m : Nat → MV} {N : Nat} {fr : Bool} {p : PV} {v : Value} (h : RS w G m N (.pv fr p) v) : RP w (G fr) p v := by
  cases h; assumption

theorem SimM.int {m : Nat → MV} {a : Act} {w : World} (h : SimM C s m a w) {x : Operand} {fr : Bool} {k : IntKind} {n : Int} (hx : getO s.env x = .pv fr (.int k n)) : a.eval x = .int k n := by
  have := h.get x
  rw [hx] at this
  have := this.pv_inv
  generalize a.eval x = v at this
  cases this; rfl

theorem SimM.bool {m : Nat → MV} {a : Act} {w : World} (h : SimM C s m a w) {x : Operand} {fr : Bool} {b : Bool} (hx : getO s.env x = .pv fr (.bool b)) : a.eval x = .bool b := by
  have := h.get x
  rw [hx] at this
  have := this.pv_inv
  generalize a.eval x = v at this
  cases this; rfl

/-- Is the number one of the kind? -/
def inR (k : IntKind) (n : Int) : Prop := match k with
  | .i64 => -9223372036854775808 ≤ n ∧ n ≤ 9223372036854775807
  | .u8 => 0 ≤ n ∧ n ≤ 255
  | .i32 => -2147483648 ≤ n ∧ n ≤ 2147483647
  | .u64 => 0 ≤ n ∧ n ≤ 18446744073709551615
  | _ => False

theorem wrap_in {k : IntKind} {n : Int} (h : inR k n) : k.wrap n = n := by
  cases k <;> simp only [inR] at h <;> try exact h.elim
  all_goals
    simp only [IntKind.wrap, IntKind.bits, IntKind.signed]
    simp
    omega

def binI (op : BinOp) (k : IntKind) (a b : Int) : Option (Prop × PV) :=
  match op with
  | .add => some (inR k (a + b), .int k (a + b))
  | .sub => some (inR k (a - b), .int k (a - b))
  | .mul => some (inR k (a * b), .int k (a * b))
  | .quo => some (0 ≤ a ∧ 0 < b ∧ inR k (a / b), .int k (a / b))
  | .rem => some (0 ≤ a ∧ 0 < b, .int k (a % b))
  | .eql => some (True, .bool (a == b))
  | .neq => some (True, .bool (a != b))
  | .lss => some (True, .bool (decide (a < b)))
  | .leq => some (True, .bool (decide (a ≤ b)))
  | .gtr => some (True, .bool (decide (b < a)))
  | .geq => some (True, .bool (decide (b ≤ a)))
  | _ => none

theorem lt_binI {op : BinOp} {xt yt : TypeId} {x y : Operand} {k : IntKind} {n1 n2 : Int} {f1 f2 : Bool} {cnd : Prop} {r : PV}
    (hx : getO s.env x = .pv f1 (.int k n1)) (hy : getO s.env y = .pv f2 (.int k n2)) (hb : binI op k n1 n2 = some (cnd, r)) (hc : cnd) : Lt P C s ⟨some t, .binOp op xt x y yt, ty, pos, af, none⟩ (.pv true r) := by
  intro m a w hs
  have e1 := hs.int hx
  have e2 := hs.int hy
  have hguard : ∀ (T : TypeId) (w : World), (eqGuard op T x y (.int k n1) (.int k n2)).run P w = .ok () w := by
    intro T w
    cases op <;> rfl
  have key : ∃ v, (∀ w, (binOp op xt (.int k n1) (.int k n2)).run P w = .ok v w) ∧ RS w (Gd C s.rows m w) m s.rows.length (.pv true r) v := by
    cases op <;> simp only [binI, Option.some.injEq, Prod.mk.injEq, reduceCtorEq] at hb
    all_goals try (obtain ⟨rfl, rfl⟩ := hb)
    all_goals try simp only [binOp, ne_eq, not_true, if_false, Op.intArith, Op.intCmp, Op.intDiv]
    all_goals first
      | exact ⟨_, fun _ => rfl, .pv _ _ _ (by rw [wrap_in hc]; exact .int _ _)⟩
      | exact ⟨_, fun _ => rfl, .pv _ _ _ (.bool _)⟩
      | (rw [if_neg (by omega)]
         refine ⟨_, fun _ => rfl, .pv _ _ _ ?_⟩
         first
           | (rw [Int.tdiv_eq_ediv_of_nonneg hc.1, wrap_in hc.2.2]; exact .int _ _)
           | (rw [Int.tmod_eq_emod_of_nonneg hc.1]; exact .int _ _))
  obtain ⟨v, hr, hv⟩ := key
  refine ⟨v, fun w' _ => ?_, hv⟩
  simp only [execOp, e1, e2]
  have := hguard xt w'
  simp [this, hr]

theorem vo_binI {op : BinOp} {xt yt : TypeId} {x y : Operand} {k : IntKind} {n1 n2 : Int} {f1 f2 : Bool} {cnd : Prop} {r : PV} (ht : Nat.blt t s.n = true)
    (hx : getO s.env x = .pv f1 (.int k n1)) (hy : getO s.env y = .pv f2 (.int k n2)) (hb : binI op k n1 n2 = some (cnd, r)) (hc : cnd)
    (next : VO P C ops rest Q (s.put t (.pv true r))) : VO P C ops (⟨some t, .binOp op xt x y yt, ty, pos, af, none⟩ :: rest) Q s := vo_pure ht (lt_binI hx hy hb hc) next

end
end
end Go.Vl
