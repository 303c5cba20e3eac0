/- Rules: picks, guards, cutting, building. -/
import Derived.Test.YtmjbklmjehjpoacVlOps2
namespace Go.Vl
set_option linter.unusedVariables false
set_option linter.unusedSimpArgs false
open Go.RowKit
section
variable {P : Program} {C : Ctx} {Q : Go.Exit → St → Prop} {s : St}
variable {ops : Array Oper} {rest : List Oper} {t : Nat} {ty : TypeId} {pos : String} {af : Array Edge}

theorem lt_pick_t {c x y : Operand} {f : Bool} (hc : getO s.env c = .pv f (.bool true)) : Lt P C s ⟨some t, .pick c x y, ty, pos, af, none⟩ ((getO s.env x)) := by
  intro m a w hs
  exact ⟨a.eval x, fun _ _ => by simp [execOp, hs.bool hc, asBool], hs.get x⟩

theorem vo_pick_t {c x y : Operand} {f : Bool} (ht : Nat.blt t s.n = true) (hc : getO s.env c = .pv f (.bool true)) (next : VO P C ops rest Q (s.put t ((getO s.env x)))) : VO P C ops (⟨some t, .pick c x y, ty, pos, af, none⟩ :: rest) Q s :=
  vo_pure ht (lt_pick_t hc) next

theorem lt_pick_f {c x y : Operand} {f : Bool} (hc : getO s.env c = .pv f (.bool false)) : Lt P C s ⟨some t, .pick c x y, ty, pos, af, none⟩ ((getO s.env y)) := by
  intro m a w hs
  exact ⟨a.eval y, fun _ _ => by simp [execOp, hs.bool hc, asBool], hs.get y⟩

theorem vo_pick_f {c x y : Operand} {f : Bool} (ht : Nat.blt t s.n = true) (hc : getO s.env c = .pv f (.bool false)) (next : VO P C ops rest Q (s.put t ((getO s.env y)))) : VO P C ops (⟨some t, .pick c x y, ty, pos, af, none⟩ :: rest) Q s :=
  vo_pure ht (lt_pick_f hc) next

/-- The ways of a test part; behind it the slot holds the answer. -/
theorem vo_split {l : List Oper} (d : Nat) {f b : Bool} (hd : look s.env d = .pv f (.bool b))
    (h1 : b = true → VO P C ops l Q { s with env := (d, .pv true (.bool true)) :: s.env })
    (h2 : b = false → VO P C ops l Q { s with env := (d, .pv true (.bool false)) :: s.env }) : VO P C ops l Q s := by
  intro a w ⟨m, hs⟩
  have hv := hs.env d
  rw [hd] at hv
  have key : ∀ b', b = b' → SimM C { s with env := (d, .pv true (.bool b')) :: s.env } m a w := by
    intro b' e
    subst e
    have henv : ∀ u, RS w (Gd C s.rows m w) m s.rows.length (look ((d, .pv true (.bool b)) :: s.env) u) (a.tmps.getD u undef) := by
      intro u
      rw [look_put]
      split
      · rename_i e
        subst e
        have := hv.pv_inv
        exact .pv _ _ _ (this.scal_any rfl)
      · exact hs.env u
    exact ⟨hs.defs, hs.size, hs.os, hs.tape, hs.output, hs.hsz, hs.old, hs.bor, hs.nbl, hs.newb, hs.dist, hs.rows, henv⟩
  cases hb : b with
  | true => exact h1 hb a w ⟨m, key true hb⟩
  | false => exact h2 hb a w ⟨m, key false hb⟩

/-- A guarded operation whose guard says yes. -/
theorem vo_guard_on {op : Op} {dst : Option Tmp} {j d : Nat} {want f : Bool} (hj : (ops[j]?).bind (·.dst) = some d) (hdn : Nat.blt d s.n = true) (hd : look s.env d = .pv f (.bool want))
    (next : VO P C ops (⟨dst, op, ty, pos, af, none⟩ :: rest) Q s) : VO P C ops (⟨dst, op, ty, pos, af, some (j, want)⟩ :: rest) Q s := by
  intro a w hs
  have hn := next a w hs
  obtain ⟨m, hm⟩ := hs
  have hv := hm.env d
  rw [hd] at hv
  have hv := hv.pv_inv
  have hlt : d < a.tmps.size := by rw [hm.size]; exact blt_lt hdn
  have hy : yielded ops a.tmps j = some want := by
    unfold yielded
    rw [hj]
    simp only [Array.getD, hlt, dif_pos] at hv
    simp only [Option.bind_some, Array.getElem?_eq_getElem hlt]
    simp only [Array.getInternal_eq_getElem] at hv
    generalize a.tmps[d] = u at *
    cases hv
    rfl
  have e1 : Region.wanted ⟨dst, op, ty, pos, af, some (j, want)⟩ (yielded ops a.tmps) = true := by simp [Region.wanted, hy]
  have e2 : Region.wanted ⟨dst, op, ty, pos, af, none⟩ (yielded ops a.tmps) = true := by simp [Region.wanted]
  unfold wpList at hn ⊢
  rw [if_pos e2] at hn
  rw [if_pos e1]
  exact hn

/-- A guarded operation whose guard says no. -/
theorem vo_guard_off {op : Op} {j d dt : Nat} {want b f : Bool} (hj : (ops[j]?).bind (·.dst) = some d) (hdn : Nat.blt d s.n = true) (hdt : Nat.blt dt s.n = true) (hd : look s.env d = .pv f (.bool b)) (hb : b = !want)
    (next : VO P C ops rest Q (s.put dt .und)) : VO P C ops (⟨some dt, op, ty, pos, af, some (j, want)⟩ :: rest) Q s := by
  intro a w ⟨m, hm⟩
  have hv := hm.env d
  rw [hd] at hv
  have hv := hv.pv_inv
  have hlt : d < a.tmps.size := by rw [hm.size]; exact blt_lt hdn
  have hy : yielded ops a.tmps j = some b := by
    unfold yielded
    rw [hj]
    simp only [Array.getD, hlt, dif_pos] at hv
    simp only [Option.bind_some, Array.getElem?_eq_getElem hlt]
    simp only [Array.getInternal_eq_getElem] at hv
    generalize a.tmps[d] = u at *
    cases hv
    rfl
  have e1 : Region.wanted ⟨some dt, op, ty, pos, af, some (j, want)⟩ (yielded ops a.tmps) = false := by
    simp [Region.wanted, hy, hb]
  unfold wpList
  rw [if_neg (by simp [e1])]
  exact next _ _ ⟨m, hm.put (blt_lt hdt) .und⟩

/-- A guarded operation whose guard was itself passed over. -/
theorem vo_guard_und {op : Op} {j d dt : Nat} {want : Bool} (hj : (ops[j]?).bind (·.dst) = some d) (hdn : Nat.blt d s.n = true) (hdt : Nat.blt dt s.n = true) (hd : look s.env d = .und)
    (next : VO P C ops rest Q (s.put dt .und)) : VO P C ops (⟨some dt, op, ty, pos, af, some (j, want)⟩ :: rest) Q s := by
  intro a w ⟨m, hm⟩
  have hv := hm.env d
  rw [hd] at hv
  have hlt : d < a.tmps.size := by rw [hm.size]; exact blt_lt hdn
  have hy : yielded ops a.tmps j = none := by
    unfold yielded
    rw [hj]
    simp only [Array.getD, hlt, dif_pos] at hv
    simp only [Option.bind_some, Array.getElem?_eq_getElem hlt]
    simp only [Array.getInternal_eq_getElem] at hv
    generalize a.tmps[d] = u at *
    cases hv
    rfl
  have e1 : Region.wanted ⟨some dt, op, ty, pos, af, some (j, want)⟩ (yielded ops a.tmps) = false := by
    simp [Region.wanted, hy]
  unfold wpList
  rw [if_neg (by simp [e1])]
  exact next _ _ ⟨m, hm.put (blt_lt hdt) .und⟩

/-- The bounds of a cut. -/
def bnd (e : List (Nat × SV)) (o : Option Operand) (dflt : Nat) : Option Int :=
  match o with
  | none => some dflt
  | some x => match getO e x with
    | .pv _ (.int _ n) => some n
    | _ => none

theorem SimM.bnd_run {m : Nat → MV} {a : Act} {w w1 : World} (h : SimM C s m a w) {o : Operand} {y : Nat} {l : Int} {code : BoundsCode} {f : Bool} {k : IntKind} (hx : getO s.env o = .pv f (.int k l))
    (h0 : 0 ≤ l) (h1 : l ≤ y) : (Instr.sliceBound (a.eval o) y code).run P w1 = .ok l.toNat w1 := by
  have e := h.int hx
  simp [Instr.sliceBound, e, asIntOf, h0, h1]

/-- A cut of a slice that nobody writes. -/
theorem lt_slice_pv {x : Operand} {lo hi : Option Operand} {f : Bool} {nl : Option Bool} {e : Nat} {xs : List PV} {T el : TypeId} {inf : TypeInfo} {l h : Int} 
 (hx : getO s.env x = .pv f (.sl nl e xs)) (hl : bnd s.env lo 0 = some l) (hh : bnd s.env hi xs.length = some h)
 (hT : P.underlying T = some (.slice el)) (hinf : P.info? el = some inf) (hsz : inf.size = e) (h0 : 0 ≤ l) (h1 : l ≤ h) (h2 : h ≤ xs.length) : Lt P C s ⟨some t, .slice T x lo hi none, ty, pos, af, none⟩ ((.pv f (.sl nl e ((xs.drop l.toNat).take (h.toNat - l.toNat))))) := by
  intro m a w hs
  have hv := hs.get x
  rw [hx] at hv
  have hv := hv.pv_inv
  obtain ⟨l', rfl⟩ := Int.eq_ofNat_of_zero_le h0
  obtain ⟨h', rfl⟩ := Int.eq_ofNat_of_zero_le (Int.le_trans h0 h1)
  simp only [Int.toNat_natCast] at *
  have hb : ∀ (w1 : World) (len cap : Nat), len = xs.length → h' ≤ cap → (Instr.sliceBounds true len cap (lo.map a.eval) (hi.map a.eval) none).run P w1 = .ok (l', h', cap) w1 := by
    intro w1 len cap hlen hcap
    subst hlen
    have r1 : ∀ y code, l' ≤ y → ∀ o, lo = some o → (Instr.sliceBound (a.eval o) y code).run P w1 = .ok l' w1 := by
      intro y code hy o ho
      subst ho
      simp only [bnd] at hl
      split at hl
      · rename_i f' k' n' he
        simp at hl
        subst hl
        have := hs.bnd_run (P := P) (w1 := w1) (y := y) (code := code) he (by omega) (by omega)
        simpa using this
      · simp at hl
    have r2 : ∀ y code, h' ≤ y → ∀ o, hi = some o → (Instr.sliceBound (a.eval o) y code).run P w1 = .ok h' w1 := by
      intro y code hy o ho
      subst ho
      simp only [bnd] at hh
      split at hh
      · rename_i f' k' n' he
        simp at hh
        subst hh
        have := hs.bnd_run (P := P) (w1 := w1) (y := y) (code := code) he (by omega) (by omega)
        simpa using this
      · simp at hh
    cases lo with
    | none =>
      simp [bnd] at hl
      cases hi with
      | none => simp [bnd] at hh; simp [Instr.sliceBounds]; omega
      | some o => simp [Instr.sliceBounds, r2 _ _ hcap o rfl]; omega
    | some ol =>
      cases hi with
      | none =>
        simp [bnd] at hh
        have hh : xs.length = h' := by omega
        subst hh
        simp [Instr.sliceBounds, r1 xs.length _ (by omega) ol rfl]
      | some o => simp [Instr.sliceBounds, r2 _ _ hcap o rfl, r1 h' _ (by omega) ol rfl]
  generalize hav : a.eval x = v at hv
  have hval : ∀ (ao : Option Addr) (len cap : Nat), v = .slice ao len cap → len = xs.length → len ≤ cap → ∀ w', ExtW w w' →
      (execOp a.eval ⟨some t, .slice T x lo hi none, ty, pos, af, none⟩).run P w' = .ok (.value (.slice (if cap = l' then ao else ao.map (·.add (l' * e))) (h' - l') (cap - l'))) w' := by
    intro ao len cap e1 e2 e3 w' _
    subst e1
    have := hb w' len cap e2 (by omega)
    simp [execOp, Instr.sliceAt, Instr.slice, run_underlying hT, hav, this, sizeOf, typeInfo, hinf, hsz]
  cases hv with
  | nilsl nl e hnl =>
    have hl0 : l' = 0 := by simp at h2; omega
    have hh0 : h' = 0 := by simp at h2; omega
    subst hl0; subst hh0
    refine ⟨_, hval none 0 0 rfl rfl (by omega), ?_⟩
    simp
    exact .pv _ _ _ (.nilsl nl e hnl)
  | sl nl e xs ad len cap fv hnl hsp hlen hcap hg hw hc hr =>
    refine ⟨_, hval (some ad) len cap rfl hlen hcap, ?_⟩
    have hlen2 : ((xs.drop l').take (h' - l')).length = h' - l' := by simp; omega
    have hel : ∀ (i : Nat) (y : PV), ((xs.drop l').take (h' - l'))[i]? = some y → xs[l' + i]? = some y := by
      intro i y hy
      rw [List.getElem?_take] at hy
      split at hy
      · rw [List.getElem?_drop] at hy; exact hy
      · cases hy
    by_cases hcl : cap = l'
    · have e0 : h' - l' = 0 := by omega
      rw [if_pos hcl, e0]
      simp only [List.take_zero]
      exact .pv _ _ _ (.sl nl e [] ad 0 _ (fun _ _ => undef) hnl (fun h => (h rfl).elim) rfl (by omega) (by simp) (by simp) (by simp) (by simp))
    · rw [if_neg hcl]
      by_cases hx0 : xs = []
      · subst hx0
        have e0 : h' - l' = 0 := by simp at h2; omega
        rw [e0]
        simp only [List.drop_nil, List.take_nil, Option.map_some]
        exact .pv _ _ _ (.sl nl e [] _ 0 _ (fun _ _ => undef) hnl (fun h => (h rfl).elim) rfl (by omega) (by simp) (by simp) (by simp) (by simp))
      have hsp := hsp hx0
      have hadd : ad.add (l' * e) = ⟨ad.block, ad.off + l' * e, none⟩ := by
        unfold Addr.add
        split
        · rename_i h0
          rw [h0]
          cases ad
          simp at hsp
          simp [hsp]
        · rw [← hsp]
      simp only [Option.map_some, hadd]
      refine .pv _ _ _ (.sl nl e _ ⟨ad.block, ad.off + l' * e, none⟩ _ _ (fun i j => fv (l' + i) j) hnl (fun _ => rfl) hlen2.symm (by omega) (fun hne => hg (fun h0 => hne (by simp [h0]))) (fun i y hy => hw _ y (hel i y hy)) (fun i y j c hy hcj => ?_) (fun i y j c hy hcj => hr _ y j c (hel i y hy) hcj))
      have := hc _ y j c (hel i y hy) hcj
      rw [← this]
      congr 2
      simp only [Nat.add_mul, Nat.add_assoc]

theorem vo_slice_pv {x : Operand} {lo hi : Option Operand} {f : Bool} {nl : Option Bool} {e : Nat} {xs : List PV} {T el : TypeId} {inf : TypeInfo} {l h : Int} (ht : Nat.blt t s.n = true)
    (hx : getO s.env x = .pv f (.sl nl e xs)) (hl : bnd s.env lo 0 = some l) (hh : bnd s.env hi xs.length = some h)
    (hT : P.underlying T = some (.slice el)) (hinf : P.info? el = some inf) (hsz : inf.size = e) (h0 : 0 ≤ l) (h1 : l ≤ h) (h2 : h ≤ xs.length) (next : VO P C ops rest Q (s.put t ((.pv f (.sl nl e ((xs.drop l.toNat).take (h.toNat - l.toNat))))))) : VO P C ops (⟨some t, .slice T x lo hi none, ty, pos, af, none⟩ :: rest) Q s :=
  vo_pure ht (lt_slice_pv hx hl hh hT hinf hsz h0 h1 h2) next

end
end Go.Vl
