/- Rules: stores and loads in rows that the call may write; variables of structs behind a pointer; structs built. -/
import Derived.Test.YtmjbklmjehjpoacVlRet
namespace Go.Vl
set_option linter.unusedVariables false
set_option linter.unusedSimpArgs false
open Go.RowKit

theorem splice_get {α : Type} (l news : List α) (i e : Nat) (hn : news.length = e) (hl : (i + 1) * e ≤ l.length) (i' j : Nat) (hj : j < e) :
    (l.take (i * e) ++ news ++ l.drop (i * e + e))[i' * e + j]? = if i' = i then news[j]? else l[i' * e + j]? := by
  have h1 : (i + 1) * e = i * e + e := by rw [Nat.add_mul]; omega
  have ht : (l.take (i * e)).length = i * e := by rw [List.length_take]; omega
  by_cases hii : i' = i
  · subst hii
    rw [if_pos rfl, List.append_assoc, List.getElem?_append_right (by omega), ht, List.getElem?_append_left (by omega)]
    congr 1
    omega
  · rw [if_neg hii]
    rcases Nat.lt_or_ge i' i with hlt | hge
    · have : (i' + 1) * e ≤ i * e := Nat.mul_le_mul_right e (by omega)
      rw [Nat.add_mul] at this
      rw [List.append_assoc, List.getElem?_append_left (by omega), List.getElem?_take, if_pos (by omega)]
    · have : (i + 1) * e ≤ i' * e := Nat.mul_le_mul_right e (by omega)
      rw [List.getElem?_append_right (by rw [List.length_append]; omega), List.length_append, ht, hn, List.getElem?_drop]
      congr 1
      omega

section
variable {P : Program} {C : Ctx} {Q : Go.Exit → St → Prop} {s : St}
variable {ops : Array Oper} {rest : List Oper} {t : Nat} {ty : TypeId} {pos : String} {af : Array Edge}

/-- An operation that hands back nothing. -/
theorem vo_unit {op : Op} {s1 : St} (hrun : ∀ m a w, SimM C s m a w → ∃ w' m', (execOp a.eval ⟨none, op, ty, pos, af, none⟩).run P w = .ok .skip w' ∧ SimM C s1 m' a w')
    (next : VO P C ops rest Q s1) : VO P C ops (⟨none, op, ty, pos, af, none⟩ :: rest) Q s := by
  intro a w ⟨m, hs⟩
  obtain ⟨w', m', hr, hs'⟩ := hrun m a w hs
  refine wpList_plain rfl fun K hK => ?_
  unfold Oper.wp
  rw [hr, Oper.upon_skip]
  exact hK _ _ (next _ _ ⟨m', hs'⟩)

theorem SimM.ptr {m : Nat → MV} {a : Act} {w : World} (h : SimM C s m a w) {x : Operand} {id e i o : Nat} (hx : getO s.env x = .ptr id e i o) :
    ∃ b, a.eval x = .pointer (some ⟨b, i * e + o, none⟩) ∧ blk (m id).v = some b ∧ id < s.rows.length := by
  have := h.get x
  rw [hx] at this
  generalize a.eval x = v at this
  cases this with
  | ptr _ _ _ _ b hid hb => exact ⟨b, rfl, hb, hid⟩

theorem grown_setRow (w : World) (g : Nat) (cs : Array Value) : w.grownBy (w.setRow g cs) (some g) :=
  ⟨rfl, rfl, rfl, by simp [World.setRow], fun k _ hk => setRow_other w g k cs (fun e => hk (by rw [e]))⟩

/-- A whole element of a row is written. -/
theorem vo_store_own' {x y : Operand} {T id R e i : Nat} {nl : Option Bool} {fr f : Bool} {xs : List PV} {p : PV} {inf : TypeInfo} (hx : getO s.env x = .ptr id e i 0) (hrow : s.rows[id]? = some (.own R e nl fr xs))
    (hy : ∀ m a w, SimM C s m a w → RP w (Gd C s.rows m w f) p (a.eval y)) (hinf : P.info? T = some inf) (hsz : inf.size = e) (he : 0 < e) (hfit : fitsB e p = true) (hi : i < xs.length)
    (next : VO P C ops rest Q ⟨s.n, s.env, s.rows.set id (.own R e nl (fr && (f || p.scal)) (xs.set i p))⟩) :
    VO P C ops (⟨none, .store T x y, ty, pos, af, none⟩ :: rest) Q s := by
  refine vo_unit (s1 := { s with rows := s.rows.set id (.own R e nl (fr && (f || p.scal)) (xs.set i p)) }) (fun m a w hs => ?_) next
  obtain ⟨b, hv, hb, hid⟩ := hs.ptr hx
  have hvy := hy m a w hs
  have hfp := fits_of hfit
  have hlive : liveAt s.rows id := ⟨_, hrow, rfl⟩
  have hR := hs.rows id _ hrow
  generalize hmv : m id = v at *
  cases hR with
  | own v t' e nl fr xs vs hown h1 h2 hw hr =>
    rcases hown.2 with ⟨rfl, hn0⟩ | ⟨g, cap, cur, rfl, _, hh, hle, hmx, hcs, htk⟩
    · omega
    · simp only [MV.of, blk, Option.some.injEq] at hb
      have hgb : b = g := hb.symm
      subst hgb
      have hysz : (a.eval y).cells.toList.length = e := by
        simp only [Array.length_toList]
        rw [hvy.cells.1]
        exact hfp.1
      have hone : ∀ u ∈ (a.eval y).cells.toList, u.oneCell' = true := by
        intro u hu
        obtain ⟨j, hj⟩ := List.getElem?_of_mem hu
        have hjl : j < p.cells.length := by rw [hfp.1, ← hysz]; exact (List.getElem?_eq_some_iff.1 hj).1
        obtain ⟨u', hu', hp'⟩ := hvy.cells.2 j _ (List.getElem?_eq_getElem hjl)
        have : u = u' := by
          rw [Array.getElem?_toList] at hj
          rw [hj] at hu'
          exact Option.some.inj hu'
        rw [this]
        exact hp'.oneCell (hfp.2 j _ (List.getElem?_eq_getElem hjl))
      have hcap : (i + 1) * e ≤ cur.size := by rw [hcs]; exact Nat.mul_le_mul_right e (by omega)
      have hcap1 : i * e + e ≤ cur.size := by rw [Nat.add_mul] at hcap; omega
      have hrun := run_storeCells_at P b (i * e) R (a.eval y).cells.toList 0 cur w hh (by omega) hone
      simp only [Nat.add_zero, hysz] at hrun
      let w' := w.setRow b (cur.toList.take (i * e) ++ (a.eval y).cells.toList ++ cur.toList.drop (i * e + e)).toArray
      refine ⟨w', m, ?_, ?_⟩
      · have hsz2 : ¬ ((a.eval y).cells.size ≠ inf.size) := by
          rw [hsz, ← hysz]; simp
        have hsz3 : (a.eval y).cells.size = e := by rw [← hysz]; simp
        simp [execOp, Instr.storeAt, hv, Instr.sureAddr, storeVar, sizeOf, typeInfo, hinf, hsz, hsz3, hrun, w']
      · have hg : w.grownBy w' (some b) := grown_setRow w b _
        refine hs.storeRow hlive (fun b' e => by cases e; rw [hmv]; rfl) hg _ (fun hG => ?_)
        rw [hmv]
        have hvl := hown.1
        have hcomb : ∀ b, Gd C s.rows m w fr b → Gd C s.rows m w (fr && (f || p.scal)) b := by
          intro b hb
          cases hf1 : fr && (f || p.scal) with
          | false => exact hb.weak
          | true =>
            simp only [Bool.and_eq_true] at hf1
            rw [hf1.1] at hb
            exact hb
        have hvle : (i + 1) * e ≤ vs.length := by rw [hvl]; exact Nat.mul_le_mul_right e (by omega)
        have hvle1 : i * e + e ≤ vs.length := by rw [Nat.add_mul] at hvle; omega
        refine .own _ R e nl _ (xs.set i p) (vs.take (i * e) ++ (a.eval y).cells.toList ++ vs.drop (i * e + e)) ⟨?_, .inr ⟨b, cap, _, by rw [List.length_set], Nat.zero_le _, setRow_heap w b cur _ R _ hh, by rw [List.length_set]; exact hle, hmx, ?_, ?_⟩⟩
          (fun h => by have := h1 h; simp at this) (fun _ h => by cases h) (fun j x hx => ?_) (fun i' x j c hx hc => ?_)
        · rw [List.length_set]
          simp only [List.length_append, List.length_take, List.length_drop, hysz]
          omega
        · simp only [List.size_toArray, List.length_append, List.length_take, List.length_drop, Array.length_toList]
          rw [← hcs]
          have : (a.eval y).cells.size = e := by rw [← hysz]; simp
          omega
        · rw [List.length_set]
          show List.take (xs.length * e) (cur.toList.take (i * e) ++ (a.eval y).cells.toList ++ cur.toList.drop (i * e + e)) = _
          apply List.ext_getElem?
          intro q
          have hpos : ∀ q, ∃ i' j, j < e ∧ q = i' * e + j := fun q => ⟨q / e, q % e, Nat.mod_lt _ he, (div_mul_add_mod q e).symm⟩
          obtain ⟨i', j, hj, rfl⟩ := hpos q
          have hlen2 : (i + 1) * e ≤ cur.toList.length := by simpa using hcap
          rw [splice_get vs _ i e hysz hvle i' j hj, List.getElem?_take, splice_get cur.toList _ i e hysz hlen2 i' j hj]
          have hvv : ∀ q : Nat, vs[q]? = if q < xs.length * e then cur.toList[q]? else none := by
            intro q
            rw [← htk, List.getElem?_take]
          split
          · rename_i hlt
            split
            · rfl
            · rw [hvv, if_pos hlt]
          · rename_i hge
            split
            · rename_i e1
              subst e1
              rw [Nat.add_mul, hvl] at hvle
              omega
            · rw [hvv, if_neg hge]
        · by_cases hij : i = j
          · subst hij
            rw [List.getElem?_set_self hi] at hx
            cases hx
            exact hfp
          · rw [List.getElem?_set_ne hij] at hx
            exact hw j x hx
        · by_cases hij : i = i'
          · subst hij
            rw [List.getElem?_set_self hi] at hx
            cases hx
            obtain ⟨u, hu, hp⟩ := hvy.cells.2 j c hc
            have hj : j < e := by rw [← hfp.1]; exact (List.getElem?_eq_some_iff.1 hc).1
            refine ⟨u, ?_, ?_⟩
            · rw [splice_get vs _ i e hysz hvle i j hj, if_pos rfl, Array.getElem?_toList]
              exact hu
            · cases hsc : p.scal with
              | true =>
                have : c.scal = true := by
                  have hpc : p.cells = [p] := by cases p <;> simp_all [PV.scal, PV.cells]
                  rw [hpc] at hc
                  cases j with
                  | zero => simp at hc; rw [← hc]; exact hsc
                  | succ j => simp at hc
                exact hp.scal_any this
              | false =>
                rw [hsc] at hG
                refine hp.mono fun b hb => hG (fr && (f || false)) b ?_
                cases hf1 : fr && (f || false) with
                | false => exact hb.weak
                | true =>
                  simp only [Bool.and_eq_true, Bool.or_false] at hf1
                  rw [hf1.2] at hb
                  exact hb
          · rw [List.getElem?_set_ne hij] at hx
            obtain ⟨u, hu, hp⟩ := hr i' x j c hx hc
            have hj : j < e := by rw [← (hw i' x hx).1]; exact (List.getElem?_eq_some_iff.1 hc).1
            refine ⟨u, ?_, hp.mono fun b hb => hG _ b (hcomb b hb)⟩
            rw [splice_get vs _ i e hysz hvle i' j hj, if_neg (fun h => hij h.symm)]
            exact hu

theorem vo_store_own {x y : Operand} {T id R e i : Nat} {nl : Option Bool} {fr f : Bool} {xs : List PV} {p : PV} {inf : TypeInfo} (hx : getO s.env x = .ptr id e i 0) (hrow : s.rows[id]? = some (.own R e nl fr xs))
    (hy : getO s.env y = .pv f p) (hinf : P.info? T = some inf) (hsz : inf.size = e) (he : 0 < e) (hfit : fitsB e p = true) (hi : i < xs.length)
    (next : VO P C ops rest Q ⟨s.n, s.env, s.rows.set id (.own R e nl (fr && (f || p.scal)) (xs.set i p))⟩) :
    VO P C ops (⟨none, .store T x y, ty, pos, af, none⟩ :: rest) Q s :=
  vo_store_own' hx hrow (fun m a w hs => by have hvy := hs.get y; rw [hy] at hvy; exact hvy.pv_inv) hinf hsz he hfit hi next

/-- The same with the literal nil. -/
theorem vo_store_own_nil {x : Operand} {T id R e i : Nat} {nl : Option Bool} {fr : Bool} {xs : List PV} {p : PV} {inf : TypeInfo} (hx : getO s.env x = .ptr id e i 0) (hrow : s.rows[id]? = some (.own R e nl fr xs))
    (hy : ∀ w G, RP w G p (.slice none 0 0)) (hinf : P.info? T = some inf) (hsz : inf.size = e) (he : 0 < e) (hfit : fitsB e p = true) (hi : i < xs.length)
    (next : VO P C ops rest Q ⟨s.n, s.env, s.rows.set id (.own R e nl (fr && (true || p.scal)) (xs.set i p))⟩) :
    VO P C ops (⟨none, .store T x (.const (.slice none 0 0)), ty, pos, af, none⟩ :: rest) Q s :=
  vo_store_own' hx hrow (fun m a w hs => hy _ _) hinf hsz he hfit hi next

/-- An element of one cell of a row is read. -/
theorem lt_load_own {x : Operand} {T id R i : Nat} {nl : Option Bool} {fr : Bool} {xs : List PV} {p d : PV} {D : TypeDesc} (hx : getO s.env x = .ptr id 1 i 0) (hrow : s.rows[id]? = some (.own R 1 nl fr xs))
 (hT : P.underlying T = some D) (hD : (match D with | .struct _ | .array _ _ => true | _ => false) = false) (hi : i < xs.length) (hp : xs.getD i d = p) (hna : p.isAgg = false) : Lt P C s ⟨some t, .load T x, ty, pos, af, none⟩ ((.pv (fr || p.scal) p)) := by
  intro m a w hs
  obtain ⟨b, hv, hb, hid⟩ := hs.ptr hx
  have hR := hs.rows id _ hrow
  have hget : xs[i]? = some p := by rw [← hp]; simp [List.getD, List.getElem?_eq_getElem hi]
  have hpc : p.cells[0]? = some p := by cases p <;> simp_all [PV.cells, PV.isAgg]
  generalize hmv : m id = v at *
  cases hR with
  | own v t' e nl fr xs vs hown h1 h2 hw hr =>
    rcases hown.2 with ⟨rfl, hn0⟩ | ⟨g, cap, cur, rfl, _, hh, hle, hmx, hcs, htk⟩
    · omega
    · simp only [MV.of, blk, Option.some.injEq] at hb
      subst hb
      obtain ⟨u, hu, hpu⟩ := hr i p 0 p hget hpc
      have hcell : w.cell? ⟨g, i * 1 + 0, none⟩ = some u := by
        rw [cell_of_row w g _ cur R (0, 0) hh]
        rw [← htk, List.getElem?_take] at hu
        split at hu
        · simpa using hu
        · cases hu
      refine ⟨u, fun w' hw' => ?_, ?_⟩
      · have hcell := hw'.cell hcell
        have hagg : (isAgg T).run P w' = .ok false w' := by
          cases D <;> simp_all [isAgg, run_underlying hT]
        simp only [Nat.mul_one, Nat.add_zero] at hv hcell
        simp [execOp, Instr.loadAt, hv, Instr.sureAddr, loadVar, hagg, load, Sem.run, hcell]
      · cases hsc : p.scal with
        | true => simp only [Bool.or_true]; exact .pv _ _ _ (hpu.scal_any hsc)
        | false => simp only [Bool.or_false]; exact .pv _ _ _ hpu

theorem vo_load_own {x : Operand} {T id R i : Nat} {nl : Option Bool} {fr : Bool} {xs : List PV} {p d : PV} {D : TypeDesc} (ht : Nat.blt t s.n = true) (hx : getO s.env x = .ptr id 1 i 0) (hrow : s.rows[id]? = some (.own R 1 nl fr xs))
    (hT : P.underlying T = some D) (hD : (match D with | .struct _ | .array _ _ => true | _ => false) = false) (hi : i < xs.length) (hp : xs.getD i d = p) (hna : p.isAgg = false) (next : VO P C ops rest Q (s.put t ((.pv (fr || p.scal) p)))) : VO P C ops (⟨some t, .load T x, ty, pos, af, none⟩ :: rest) Q s :=
  vo_pure ht (lt_load_own hx hrow hT hD hi hp hna) next

end
end Go.Vl
