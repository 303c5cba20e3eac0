/- Further rules: reading and cutting slices, lengths. -/
import Derived.Test.YtmjbklmjehjpoacVlOps
namespace Go.Vl
set_option linter.unusedVariables false
set_option linter.unusedSimpArgs false
open Go.RowKit
section
variable {P : Program} {C : Ctx} {Q : Go.Exit → St → Prop} {s : St}
variable {ops : Array Oper} {rest : List Oper} {t : Nat} {ty : TypeId} {pos : String} {af : Array Edge}

theorem lt_not {xt : TypeId} {x : Operand} {f : Bool} {b : Bool} (hx : getO s.env x = .pv f (.bool b)) : Lt P C s ⟨some t, .unOp .not xt x, ty, pos, af, none⟩ ((.pv true (.bool (!b)))) := by
  intro m a w hs
  have e1 := hs.bool hx
  exact ⟨.bool (!b), fun _ _ => by simp [execOp, e1, Op.unary], .pv _ _ _ (.bool _)⟩

theorem vo_not {xt : TypeId} {x : Operand} {f : Bool} {b : Bool} (ht : Nat.blt t s.n = true) (hx : getO s.env x = .pv f (.bool b)) (next : VO P C ops rest Q (s.put t ((.pv true (.bool (!b)))))) : VO P C ops (⟨some t, .unOp .not xt x, ty, pos, af, none⟩ :: rest) Q s :=
  vo_pure ht (lt_not hx) next

theorem lt_convI {st dt : TypeId} {x : Operand} {f : Bool} {k k' : IntKind} {n : Int} {d : TypeDesc} (hx : getO s.env x = .pv f (.int k n))
 (h1 : P.underlying st = some d) (h2 : P.underlying dt = some (.int k')) (hr : inR k' n) : Lt P C s ⟨some t, .convert st dt x, ty, pos, af, none⟩ ((.pv true (.int k' n))) := by
  intro m a w hs
  have e1 := hs.int hx
  refine ⟨.int k' n, fun _ _ => ?_, .pv _ _ _ (.int _ _)⟩
  simp [execOp, e1, convert, run_underlying h1, run_underlying h2, Conv.intToInt, wrap_in hr]

theorem vo_convI {st dt : TypeId} {x : Operand} {f : Bool} {k k' : IntKind} {n : Int} {d : TypeDesc} (ht : Nat.blt t s.n = true) (hx : getO s.env x = .pv f (.int k n))
    (h1 : P.underlying st = some d) (h2 : P.underlying dt = some (.int k')) (hr : inR k' n) (next : VO P C ops rest Q (s.put t ((.pv true (.int k' n))))) : VO P C ops (⟨some t, .convert st dt x, ty, pos, af, none⟩ :: rest) Q s :=
  vo_pure ht (lt_convI hx h1 h2 hr) next

/-- Lengths. -/
theorem lt_len_pv {x : Operand} {f : Bool} {nl : Option Bool} {e : Nat} {xs : List PV} {T el : TypeId} (hx : getO s.env x = .pv f (.sl nl e xs)) (hT : P.underlying T = some (.slice el)) : Lt P C s ⟨some t, .call ⟨.builtin .len, #[x], #[T]⟩, ty, pos, af, none⟩ ((.pv true (.int .i64 xs.length))) := by
  intro m a w hs
  have hv := hs.get x
  rw [hx] at hv
  have hv := hv.pv_inv
  refine ⟨.int .i64 xs.length, fun _ _ => ?_, .pv _ _ _ (.int _ _)⟩
  generalize hav : a.eval x = v at hv
  cases hv with
  | nilsl => simp [execOp, resolve, invoke, builtin, Builtin.len_, hav, run_underlying hT, goInt]
  | sl nl e xs ad len cap f h hs' hl => subst hl; simp [execOp, resolve, invoke, builtin, Builtin.len_, hav, run_underlying hT, goInt]

theorem vo_len_pv {x : Operand} {f : Bool} {nl : Option Bool} {e : Nat} {xs : List PV} {T el : TypeId} (ht : Nat.blt t s.n = true) (hx : getO s.env x = .pv f (.sl nl e xs)) (hT : P.underlying T = some (.slice el)) (next : VO P C ops rest Q (s.put t ((.pv true (.int .i64 xs.length))))) : VO P C ops (⟨some t, .call ⟨.builtin .len, #[x], #[T]⟩, ty, pos, af, none⟩ :: rest) Q s :=
  vo_pure ht (lt_len_pv hx hT) next

theorem SimM.row {m : Nat → MV} {a : Act} {w : World} (h : SimM C s m a w) {x : Operand} {id : Nat} (hx : getO s.env x = .ref id) : a.eval x = (m id).v ∧ id < s.rows.length := by
  have := h.get x
  rw [hx] at this
  generalize a.eval x = v at this
  cases this
  exact ⟨rfl, by assumption⟩

theorem own_shape {w : World} {G : Bool → Nat → Prop} {m : Nat → MV} {N : Nat} {v : MV} {T : TypeId} {e : Nat} {nl : Option Bool} {fr : Bool} {xs : List PV} (h : RowOK w G m N v (.own T e nl fr xs)) :
    ∃ ao cap, v = .of (.slice ao xs.length cap) ∧ xs.length ≤ cap := by
  cases h with
  | own v t e nl fr xs vs hown =>
    rcases hown.2 with ⟨rfl, hn⟩ | ⟨g, cap, cur, rfl, _, _, hle, _⟩
    · exact ⟨none, 0, by rw [hn], by omega⟩
    · exact ⟨_, cap, rfl, hle⟩

/-- A row that is a slice. -/
def Row.sl : Row → Option (TypeId × Nat × Option Bool × List PV)
  | .own t e nl _ xs => some (t, e, nl, xs)
  | .tree t e nl _ xs => some (t, e, nl, xs)
  | _ => none

theorem SimM.sl {m : Nat → MV} {a : Act} {w : World} (h : SimM C s m a w) {id R e : Nat} {nl : Option Bool} {xs : List PV} (hrow : (s.rows[id]?).bind Row.sl = some (R, e, nl, xs)) :
    (∃ vals, w.ownsRow 0 R e (m id).v xs.length vals) ∧ id < s.rows.length ∧ liveAt s.rows id ∧ ∀ b, blk (m id).v = some b → (m id).S b := by
  cases hr : s.rows[id]? with
  | none => rw [hr] at hrow; cases hrow
  | some r =>
    rw [hr] at hrow
    have hlt := (List.getElem?_eq_some_iff.1 hr).1
    have hk := h.rows id r hr
    generalize m id = v at hk
    cases hk with
    | own v t e nl fr xs vs hown => cases hrow; exact ⟨⟨vs, hown⟩, hlt, ⟨_, hr, rfl⟩, fun b hb => hb⟩
    | tree mv t e nl h xs vals Sf hown h1 h2 hw hrr hd hn hz hS => cases hrow; exact ⟨⟨vals, hown⟩, hlt, ⟨_, hr, rfl⟩, fun b hb => (hS b).2 (.inl hb)⟩
    | dead => cases hrow
    | var => cases hrow

theorem lt_len_ref {x : Operand} {id : Nat} {R e : Nat} {nl : Option Bool} {xs : List PV} {T el : TypeId} (hx : getO s.env x = .ref id)
 (hrow : (s.rows[id]?).bind Row.sl = some (R, e, nl, xs)) (hT : P.underlying T = some (.slice el)) : Lt P C s ⟨some t, .call ⟨.builtin .len, #[x], #[T]⟩, ty, pos, af, none⟩ ((.pv true (.int .i64 xs.length))) := by
  intro m a w hs
  obtain ⟨hv, _⟩ := hs.row hx
  obtain ⟨⟨vals, hown⟩, _, _, _⟩ := hs.sl hrow
  obtain ⟨ao, cap, e1⟩ : ∃ ao cap, (m id).v = .slice ao xs.length cap := by
    rcases hown.2 with ⟨e, hn⟩ | ⟨g, cap, cur, e, _⟩
    · exact ⟨none, 0, by rw [e, hn]⟩
    · exact ⟨_, cap, e⟩
  rw [e1] at hv
  refine ⟨.int .i64 xs.length, fun _ _ => ?_, .pv _ _ _ (.int _ _)⟩
  simp [execOp, resolve, invoke, builtin, Builtin.len_, hv, run_underlying hT, goInt]

theorem vo_len_ref {x : Operand} {id : Nat} {R e : Nat} {nl : Option Bool} {xs : List PV} {T el : TypeId} (ht : Nat.blt t s.n = true) (hx : getO s.env x = .ref id)
    (hrow : (s.rows[id]?).bind Row.sl = some (R, e, nl, xs)) (hT : P.underlying T = some (.slice el)) (next : VO P C ops rest Q (s.put t ((.pv true (.int .i64 xs.length))))) : VO P C ops (⟨some t, .call ⟨.builtin .len, #[x], #[T]⟩, ty, pos, af, none⟩ :: rest) Q s :=
  vo_pure ht (lt_len_ref hx hrow hT) next

/-- An element's address in a slice that nobody writes. -/
theorem lt_index_pv {x i : Operand} {f f2 : Bool} {nl : Option Bool} {e : Nat} {xs : List PV} {T el : TypeId} {k : IntKind} {n : Int} {inf : TypeInfo} (d : PV) 
 (hx : getO s.env x = .pv f (.sl nl e xs)) (hi : getO s.env i = .pv f2 (.int k n)) (hT : P.underlying T = some (.slice el)) (hinf : P.info? el = some inf) (hsz : inf.size = e)
 (h0 : 0 ≤ n) (hn : n < xs.length) : Lt P C s ⟨some t, .indexAddr T x i, ty, pos, af, none⟩ ((.adr f (xs.getD n.toNat d).cells)) := by
  intro m a w hs
  have e2 := hs.int hi
  have hv := hs.get x
  rw [hx] at hv
  have hv := hv.pv_inv
  obtain ⟨j, rfl⟩ := Int.eq_ofNat_of_zero_le h0
  have hj : j < xs.length := by omega
  have hget : xs[j]? = some (xs.getD j d) := by simp [List.getD, List.getElem?_eq_getElem hj]
  generalize hav : a.eval x = v at hv
  cases hv with
  | nilsl => simp at hj
  | sl nl e xs ad len cap fv h hsp hl hcap hg hw hc hr =>
    subst hl
    have hne : xs ≠ [] := by intro h0; subst h0; simp at hj
    have hsp := hsp hne
    refine ⟨.pointer (some (ad.add (j * e))), fun _ _ => ?_, ?_⟩
    · simp [execOp, Instr.indexAt, hav, e2, asIntOf, run_underlying hT, sizeOf, typeInfo, hinf, hsz, hj]
    · have hadd : ad.add (j * e) = ⟨ad.block, ad.off + j * e, none⟩ := by
        unfold Addr.add
        split
        · rename_i h0
          rw [h0]
          cases ad
          simp at hsp
          simp [hsp]
        · rw [← hsp]
      rw [hadd]
      simp only [Int.toNat_natCast]
      have hfit := hw j _ hget
      refine .adr f _ ⟨ad.block, ad.off + j * e, none⟩ (fv j) rfl (fun _ => hg hne) hfit.2 (fun q c hq => ?_) (fun q c hq => hr j _ q c hget hq)
      exact hc j _ q c hget hq

theorem vo_index_pv {x i : Operand} {f f2 : Bool} {nl : Option Bool} {e : Nat} {xs : List PV} {T el : TypeId} {k : IntKind} {n : Int} {inf : TypeInfo} (d : PV) (ht : Nat.blt t s.n = true)
    (hx : getO s.env x = .pv f (.sl nl e xs)) (hi : getO s.env i = .pv f2 (.int k n)) (hT : P.underlying T = some (.slice el)) (hinf : P.info? el = some inf) (hsz : inf.size = e)
    (h0 : 0 ≤ n) (hn : n < xs.length) (next : VO P C ops rest Q (s.put t ((.adr f (xs.getD n.toNat d).cells)))) : VO P C ops (⟨some t, .indexAddr T x i, ty, pos, af, none⟩ :: rest) Q s :=
  vo_pure ht (lt_index_pv d hx hi hT hinf hsz h0 hn) next

/-- An element's address in a row of the call's own. -/
theorem lt_index_ref {x i : Operand} {f2 : Bool} {id R e : Nat} {nl : Option Bool} {xs : List PV} {T el : TypeId} {k : IntKind} {n : Int} {inf : TypeInfo} 
 (hx : getO s.env x = .ref id) (hrow : (s.rows[id]?).bind Row.sl = some (R, e, nl, xs)) (hi : getO s.env i = .pv f2 (.int k n)) (hT : P.underlying T = some (.slice el)) (hinf : P.info? el = some inf) (hsz : inf.size = e)
 (h0 : 0 ≤ n) (hn : n < xs.length) : Lt P C s ⟨some t, .indexAddr T x i, ty, pos, af, none⟩ ((.ptr id e n.toNat 0)) := by
  intro m a w hs
  have e2 := hs.int hi
  obtain ⟨hv, hid⟩ := hs.row hx
  obtain ⟨j, rfl⟩ := Int.eq_ofNat_of_zero_le h0
  have hj : j < xs.length := by omega
  obtain ⟨⟨vals, hown⟩, _, _, _⟩ := hs.sl hrow
  · rcases hown.2 with ⟨e0, hn0⟩ | ⟨g, cap, cur, e0, _, hh, hle, hmx, hsz', htk⟩
    · omega
    · rw [e0] at hv
      refine ⟨.pointer (some ⟨g, j * e, none⟩), fun _ _ => ?_, ?_⟩
      · have hadd : (⟨g, 0, none⟩ : Addr).add (j * e) = ⟨g, j * e, none⟩ := by
          unfold Addr.add
          split
          · rename_i h0; simp [h0]
          · simp
        simp [execOp, Instr.indexAt, hv, e2, asIntOf, run_underlying hT, sizeOf, typeInfo, hinf, hsz, hj, hadd]
      · simp only [Int.toNat_natCast]
        exact .ptr id e j 0 g hid (by rw [e0]; rfl)

theorem vo_index_ref {x i : Operand} {f2 : Bool} {id R e : Nat} {nl : Option Bool} {xs : List PV} {T el : TypeId} {k : IntKind} {n : Int} {inf : TypeInfo} (ht : Nat.blt t s.n = true)
    (hx : getO s.env x = .ref id) (hrow : (s.rows[id]?).bind Row.sl = some (R, e, nl, xs)) (hi : getO s.env i = .pv f2 (.int k n)) (hT : P.underlying T = some (.slice el)) (hinf : P.info? el = some inf) (hsz : inf.size = e)
    (h0 : 0 ≤ n) (hn : n < xs.length) (next : VO P C ops rest Q (s.put t ((.ptr id e n.toNat 0)))) : VO P C ops (⟨some t, .indexAddr T x i, ty, pos, af, none⟩ :: rest) Q s :=
  vo_pure ht (lt_index_ref hx hrow hi hT hinf hsz h0 hn) next

/-- A load of one cell. -/
theorem lt_load_adr {x : Operand} {T : TypeId} {f : Bool} {c : PV} {cs : List PV} {d : TypeDesc} (hx : getO s.env x = .adr f (c :: cs)) (hT : P.underlying T = some d)
 (hd : (match d with | .struct _ | .array _ _ => true | _ => false) = false) : Lt P C s ⟨some t, .load T x, ty, pos, af, none⟩ ((.pv (f || c.scal) c)) := by
  intro m a w hs
  have hv := hs.get x
  rw [hx] at hv
  generalize hav : a.eval x = v at hv
  cases hv with
  | adr _ _ ad fv hsp hg h1 hc hr =>
    have hc0 := hc 0 c rfl
    have hr0 := hr 0 c rfl
    refine ⟨fv 0, fun w' hw' => ?_, ?_⟩
    · have : w.cell? ad = some (fv 0) := by
        rw [← hc0]
        cases ad
        simp at hsp
        simp [hsp]
      have this := hw'.cell this
      have hagg : (isAgg T).run P w' = .ok false w' := by
        cases d <;> simp_all [isAgg, run_underlying hT]
      simp [execOp, Instr.loadAt, hav, Instr.sureAddr, loadVar, hagg, load, Sem.run, this]
    · cases hsc : c.scal with
      | true => simp only [Bool.or_true]; exact .pv _ _ _ (hr0.scal_any hsc)
      | false => simp only [Bool.or_false]; exact .pv _ _ _ hr0

theorem vo_load_adr {x : Operand} {T : TypeId} {f : Bool} {c : PV} {cs : List PV} {d : TypeDesc} (ht : Nat.blt t s.n = true) (hx : getO s.env x = .adr f (c :: cs)) (hT : P.underlying T = some d)
    (hd : (match d with | .struct _ | .array _ _ => true | _ => false) = false) (next : VO P C ops rest Q (s.put t ((.pv (f || c.scal) c)))) : VO P C ops (⟨some t, .load T x, ty, pos, af, none⟩ :: rest) Q s :=
  vo_pure ht (lt_load_adr hx hT hd) next

end
end Go.Vl
