/- Rules: pointers to structs and their fields; structs built and boxed. -/
import Derived.Test.YtmjbklmjehjpoacVlOps6
namespace Go.Vl
set_option linter.unusedVariables false
set_option linter.unusedSimpArgs false
open Go.RowKit

/-- A struct's fields: their places, their sizes, its zero value. -/
structure StInfo (P : Program) (S : TypeId) (pl : List (Nat × Nat)) (zs : List PV) : Prop where
  und : ∃ fs, P.underlying S = some (.struct fs)
  built : ∃ zc : Array Value, (∀ l, P.built S l = Instr.fill (pl.toArray[·]?) zc l) ∧ ∀ w G, RP w G (.agg zs) (.agg zc)

def applyP (pl : List (Nat × Nat)) : List PV → List (Nat × PV) → Option (List PV)
  | cs, [] => some cs
  | cs, (k, p) :: r => match pl[k]? with
    | some (off, sz) => bif Nat.beq p.cells.length sz && Nat.ble (off + sz) cs.length && p.cells.all (fun c => !c.isAgg) then applyP pl (cs.take off ++ p.cells ++ cs.drop (off + sz)) r else none
    | none => none

def collectQ (env : List (Nat × SV)) : List (Nat × Operand) → Option (Bool × List (Nat × PV))
  | [] => some (true, [])
  | (k, x) :: r => match getO env x, collectQ env r with
    | .pv f p, some (f', ps) => some ((f || p.scal) && f', (k, p) :: ps)
    | _, _ => none

theorem fill_apply {w : World} {G : Nat → Prop} {pl : List (Nat × Nat)} : ∀ (ps : List (Nat × PV)) (vs : List (Nat × Value)) (cs out : List PV) (zc : Array Value), RP w G (.agg cs) (.agg zc) → applyP pl cs ps = some out →
    ps.length = vs.length → (∀ (j : Nat) (k : Nat) (p : PV), ps[j]? = some (k, p) → ∃ v, vs[j]? = some (k, v) ∧ RP w G p v) → ∃ zc', Instr.fill (pl.toArray[·]?) zc vs = some zc' ∧ RP w G (.agg out) (.agg zc')
  | [], [], cs, out, zc, h0, ha, _, _ => by simp [applyP] at ha; subst ha; exact ⟨zc, rfl, h0⟩
  | [], _ :: _, _, _, _, _, _, hl, _ => by simp at hl
  | _ :: _, [], _, _, _, _, _, hl, _ => by simp at hl
  | (k, p) :: ps, (k', v) :: vs, cs, out, zc, h0, ha, hl, hv => by
    obtain ⟨v', hv1, hv2⟩ := hv 0 k p rfl
    simp at hv1
    obtain ⟨rfl, hvv⟩ := hv1
    subst hvv
    simp only [applyP] at ha
    split at ha
    · rename_i off sz hpl
      cases hb : Nat.beq p.cells.length sz && Nat.ble (off + sz) cs.length && p.cells.all (fun c => !c.isAgg) with
      | false => rw [hb] at ha; simp at ha
      | true =>
        rw [hb] at ha
        simp only [cond_true] at ha
        simp only [Bool.and_eq_true, List.all_eq_true, Bool.not_eq_true'] at hb
        obtain ⟨⟨b1, b2⟩, b3⟩ := hb
        have b1 := Nat.eq_of_beq_eq_true b1
        have b2 := Nat.le_of_ble_eq_true b2
        have hvc := hv2.cells
        cases h0 with
        | agg _ _ hzl h1 h0 =>
          have hfold := Great.foldl_set off v.cells.toList 0 zc
          let zc2 := v.cells.zipIdx.foldl (fun cs (c, j) => cs.setIfInBounds (off + j) c) zc
          have hz2 : zc2 = (v.cells.toList.zipIdx 0).foldl (fun cs (x : Value × Nat) => cs.setIfInBounds (off + x.2) x.1) zc := by
            simp only [zc2]
            rw [← Array.foldl_toList, Array.toList_zipIdx]
          have hget : ∀ q, zc2[q]? = if off ≤ q ∧ q < off + sz then v.cells[q - off]? else zc[q]? := by
            intro q
            rw [hz2, hfold.2 q]
            simp only [Nat.add_zero, Array.length_toList, hvc.1, b1, hzl, Array.getElem?_toList]
            by_cases hq : off ≤ q ∧ q < off + sz
            · rw [if_pos ⟨hq.1, hq.2, by omega⟩, if_pos hq]
            · rw [if_neg (by omega), if_neg hq]
          have hcget : ∀ q, (cs.take off ++ p.cells ++ cs.drop (off + sz))[q]? = if off ≤ q ∧ q < off + sz then p.cells[q - off]? else cs[q]? := by
            intro q
            have ht : (cs.take off).length = off := by rw [List.length_take]; omega
            by_cases hq : off ≤ q ∧ q < off + sz
            · rw [if_pos hq, List.append_assoc, List.getElem?_append_right (by omega), ht, List.getElem?_append_left (by omega)]
            · rw [if_neg hq]
              rcases Nat.lt_or_ge q off with h | h
              · rw [List.append_assoc, List.getElem?_append_left (by omega), List.getElem?_take, if_pos h]
              · rw [List.getElem?_append_right (by rw [List.length_append]; omega), List.length_append, ht, b1, List.getElem?_drop]
                congr 1
                omega
          have hsz2 : zc2.size = zc.size := by rw [hz2]; exact hfold.1
          have hnew : RP w G (.agg (cs.take off ++ p.cells ++ cs.drop (off + sz))) (.agg zc2) := by
            refine .agg _ _ ?_ (fun j c hc => ?_) (fun j c u hc hu => ?_)
            · rw [hsz2, hzl]
              simp only [List.length_append, List.length_take, List.length_drop]
              omega
            · rw [hcget] at hc
              split at hc
              · exact b3 c (List.mem_of_getElem? hc)
              · exact h1 j c hc
            · rw [hcget] at hc
              rw [hget] at hu
              by_cases hq : off ≤ j ∧ j < off + sz
              · rw [if_pos hq] at hc hu
                obtain ⟨u', hu', hp⟩ := hvc.2 _ c hc
                rw [hu] at hu'
                cases hu'
                exact hp
              · rw [if_neg hq] at hc hu
                exact h0 j c u hc hu
          obtain ⟨zc', hf, hr⟩ := fill_apply ps vs _ out zc2 hnew ha (by simpa using hl) (fun j k2 p2 hj => by
            have := hv (j + 1) k2 p2 (by simpa using hj)
            simpa using this)
          refine ⟨zc', ?_, hr⟩
          have hpl2 : pl.toArray[k']? = some (off, sz) := by simpa using hpl
          simp only [Instr.fill, hpl2]
          rw [if_neg (by simp only [bne_iff_ne, ne_eq, Bool.or_eq_true, decide_eq_true_eq, hvc.1, b1, hzl]; simp; omega)]
          exact hf
    · cases ha

section
variable {P : Program} {C : Ctx} {Q : Go.Exit → St → Prop} {s : St}
variable {ops : Array Oper} {rest : List Oper} {t : Nat} {ty : TypeId} {pos : String} {af : Array Edge}

theorem collectQ_vals {m : Nat → MV} {a : Act} {w : World} (h : SimM C s m a w) : ∀ (l : List (Nat × Operand)) (f : Bool) (ps : List (Nat × PV)), collectQ s.env l = some (f, ps) →
    ps.length = l.length ∧ ∀ (j : Nat) (k : Nat) (p : PV), ps[j]? = some (k, p) → ∃ v, (l.map fun q => (q.1, a.eval q.2))[j]? = some (k, v) ∧ RP w (Gd C s.rows m w f) p v
  | [], f, ps, hc => by
    simp [collectQ] at hc
    obtain ⟨rfl, rfl⟩ := hc
    exact ⟨rfl, fun j k p hx => by simp at hx⟩
  | (k, x) :: l, f, ps, hc => by
    simp only [collectQ] at hc
    split at hc
    · rename_i f1 p f' ps' hx hr
      simp only [Option.some.injEq, Prod.mk.injEq] at hc
      obtain ⟨rfl, rfl⟩ := hc
      obtain ⟨h2, h3⟩ := collectQ_vals h l f' ps' hr
      refine ⟨by simp [h2], fun j k2 p2 hy => ?_⟩
      have hv := h.get x
      rw [hx] at hv
      have hv := hv.pv_inv
      cases j with
      | zero =>
        simp at hy
        obtain ⟨rfl, rfl⟩ := hy
        refine ⟨a.eval x, rfl, ?_⟩
        cases hsc : p.scal with
        | true => exact hv.scal_any hsc
        | false =>
          refine hv.mono fun b hb => ⟨?_, rfl⟩
          cases f1 with
          | false => simpa using hb
          | true =>
            cases f' with
            | false => simpa using hb.weak
            | true => simpa using hb
      | succ j =>
        simp only [List.getElem?_cons_succ] at hy
        obtain ⟨v, hv1, hv2⟩ := h3 j k2 p2 hy
        refine ⟨v, by simpa using hv1, hv2.mono fun b hb => ⟨?_, rfl⟩⟩
        cases hff : (f1 || p.scal) && f' with
        | false => exact hb.weak
        | true =>
          simp only [Bool.and_eq_true] at hff
          rw [hff.2] at hb
          exact hb
    · simp at hc

/-- A struct is built. -/
theorem lt_build {S : TypeId} {parts : Array (Nat × Operand)} {pl : List (Nat × Nat)} {zs out : List PV} {f : Bool} {ps : List (Nat × PV)} (hS : StInfo P S pl zs) 
 (hp : collectQ s.env parts.toList = some (f, ps)) (ha : applyP pl zs ps = some out) : Lt P C s ⟨some t, .build S parts, ty, pos, af, none⟩ ((.pv f (.agg out))) := by
  intro m a w hs
  obtain ⟨⟨fs, hu⟩, zc, hb, hz⟩ := hS
  obtain ⟨h1, h2⟩ := collectQ_vals hs parts.toList f ps hp
  obtain ⟨zc', hf, hr⟩ := fill_apply ps (parts.toList.map fun q => (q.1, a.eval q.2)) zs out zc (hz w (Gd C s.rows m w f)) ha (by simp [h1]) h2
  refine ⟨.agg zc', fun w' _ => ?_, .pv _ _ _ hr⟩
  have hpl : (parts.map fun (i, x) => (i, a.eval x)).toList = parts.toList.map fun q => (q.1, a.eval q.2) := by rw [Array.toList_map]
  have := run_build (P := P) w' S (parts.map fun (i, x) => (i, a.eval x)) zc' (by rw [hpl, hb]; exact hf)
  simp only [execOp, Sem.run_bind, this, Result.andThen_ok]
  rfl

theorem vo_build {S : TypeId} {parts : Array (Nat × Operand)} {pl : List (Nat × Nat)} {zs out : List PV} {f : Bool} {ps : List (Nat × PV)} (hS : StInfo P S pl zs) (ht : Nat.blt t s.n = true)
    (hp : collectQ s.env parts.toList = some (f, ps)) (ha : applyP pl zs ps = some out) (next : VO P C ops rest Q (s.put t ((.pv f (.agg out))))) : VO P C ops (⟨some t, .build S parts, ty, pos, af, none⟩ :: rest) Q s :=
  vo_pure ht (lt_build hS hp ha) next

/-- A struct that is built gets a variable of its own. -/
theorem vo_box {x : Operand} {S : TypeId} {f : Bool} {cs : List PV} (ht : Nat.blt t s.n = true) (hx : getO s.env x = .pv f (.agg cs))
    (next : VO P C ops rest Q ⟨s.n, (t, .ptr s.rows.length 0 0 0) :: s.env, s.rows ++ [.var S (cs.map fun c => .pv (f || c.scal) c)]⟩) :
    VO P C ops (⟨some t, .box S x, ty, pos, af, none⟩ :: rest) Q s := by
  refine vo_value (s1 := { s with rows := s.rows ++ [.var S (cs.map fun c => .pv (f || c.scal) c)] }) (sv := .ptr s.rows.length 0 0 0) ht (fun m a w hs => ?_) next
  have hv := hs.get x
  rw [hx] at hv
  have hv := hv.pv_inv
  generalize hav : a.eval x = v at hv
  cases hv with
  | agg _ vs hl h1 h =>
    have hadd := hs.addRow (w' := w.alloc (.cells vs S)) (World.grownBy_alloc w _ none) (.var S (cs.map fun c => .pv (f || c.scal) c)) (.of <| .pointer (some ⟨w.heap.size, 0, none⟩))
      (fun b hb => by simp [MV.of, blk] at hb; omega) (fun hG => .var w.heap.size S _ vs (heap_alloc_new w _) (by simpa using hl) (fun j c u hc hu => by
        simp only [List.getElem?_map, Option.map_eq_some_iff] at hc
        obtain ⟨c', hc', rfl⟩ := hc
        have hp := h j c' u hc' hu
        cases hsc : c'.scal with
        | true => exact .pv _ _ _ (hp.scal_any hsc)
        | false => simp only [Bool.or_false]; exact .pv _ _ _ (hp.mono (hG f))) (fun j u hu => by
        have hj : j < cs.length := by rw [← hl]; exact (Array.getElem?_eq_some_iff.1 hu).1
        have hc := List.getElem?_eq_getElem hj
        exact (h j _ u hc hu).oneCell (h1 j _ hc)))
    refine ⟨.pointer (some ⟨w.heap.size, 0, none⟩), _, _, by simp [execOp, Instr.box, newVar, newRow, hav, Value.cells], hadd.1, ?_⟩
    exact .ptr s.rows.length 0 0 0 w.heap.size (by simp) (by rw [updM_same]; rfl)

theorem lt_nilCheck_ptr {x : Operand} {id e i o : Nat} (hx : getO s.env x = .ptr id e i o) : Lt P C s ⟨some t, .nilCheck x, ty, pos, af, none⟩ ((.ptr id e i o)) := by
  intro m a w hs
  have hv := hs.get x
  rw [hx] at hv
  obtain ⟨b, he, hb, hid⟩ := hs.ptr hx
  refine ⟨a.eval x, fun _ _ => by simp [execOp, he], hv⟩

theorem vo_nilCheck_ptr {x : Operand} {id e i o : Nat} (ht : Nat.blt t s.n = true) (hx : getO s.env x = .ptr id e i o) (next : VO P C ops rest Q (s.put t ((.ptr id e i o)))) : VO P C ops (⟨some t, .nilCheck x, ty, pos, af, none⟩ :: rest) Q s :=
  vo_pure ht (lt_nilCheck_ptr hx) next

theorem lt_fieldAddr_ptr {x : Operand} {S : TypeId} {k id e i o : Nat} {fs : Array Field} {fd : Field} {inf : TypeInfo} (hx : getO s.env x = .ptr id e i o)
 (hS : P.underlying S = some (.struct fs)) (hk : fs[k]? = some fd) (hinf : P.info? fd.type = some inf) (hsz : ¬ inf.size = 0) : Lt P C s ⟨some t, .fieldAddr S x k, ty, pos, af, none⟩ ((.ptr id e i (o + fd.offset))) := by
  intro m a w hs
  obtain ⟨b, he, hb, hid⟩ := hs.ptr hx
  refine ⟨.pointer (some ⟨b, i * e + (o + fd.offset), none⟩), fun _ _ => ?_, .ptr id e i _ b hid hb⟩
  simp [execOp, he, Instr.fieldAt, run_underlying hS, hk, Instr.sureAddr, fieldPlace, sizeOf, typeInfo, hinf, hsz, Addr_add, Nat.add_assoc]

theorem vo_fieldAddr_ptr {x : Operand} {S : TypeId} {k id e i o : Nat} {fs : Array Field} {fd : Field} {inf : TypeInfo} (ht : Nat.blt t s.n = true) (hx : getO s.env x = .ptr id e i o)
    (hS : P.underlying S = some (.struct fs)) (hk : fs[k]? = some fd) (hinf : P.info? fd.type = some inf) (hsz : ¬ inf.size = 0) (next : VO P C ops rest Q (s.put t ((.ptr id e i (o + fd.offset))))) : VO P C ops (⟨some t, .fieldAddr S x k, ty, pos, af, none⟩ :: rest) Q s :=
  vo_pure ht (lt_fieldAddr_ptr hx hS hk hinf hsz) next

theorem lt_fieldAddr_adr {x : Operand} {S : TypeId} {k : Nat} {f : Bool} {cs : List PV} {fs : Array Field} {fd : Field} {inf : TypeInfo} (hx : getO s.env x = .adr f cs)
 (hS : P.underlying S = some (.struct fs)) (hk : fs[k]? = some fd) (hinf : P.info? fd.type = some inf) (hsz : ¬ inf.size = 0) : Lt P C s ⟨some t, .fieldAddr S x k, ty, pos, af, none⟩ ((.adr f (cs.drop fd.offset))) := by
  intro m a w hs
  have hv := hs.get x
  rw [hx] at hv
  generalize hav : a.eval x = v at hv
  cases hv with
  | adr _ _ ad fv hsp hg h1 hc hr =>
    refine ⟨.pointer (some ⟨ad.block, ad.off + fd.offset, none⟩), fun _ _ => ?_, ?_⟩
    · simp [execOp, hav, Instr.fieldAt, run_underlying hS, hk, Instr.sureAddr, fieldPlace, sizeOf, typeInfo, hinf, hsz, Addr_add ad hsp]
    · refine .adr f _ ⟨ad.block, ad.off + fd.offset, none⟩ (fun j => fv (fd.offset + j)) rfl (fun hne => hg (fun h0 => hne (by simp [h0]))) (fun j c hj => ?_) (fun j c hj => ?_) (fun j c hj => ?_)
      · rw [List.getElem?_drop] at hj; exact h1 _ c hj
      · rw [List.getElem?_drop] at hj
        rw [← hc _ c hj, Nat.add_assoc]
      · rw [List.getElem?_drop] at hj; exact hr _ c hj

theorem vo_fieldAddr_adr {x : Operand} {S : TypeId} {k : Nat} {f : Bool} {cs : List PV} {fs : Array Field} {fd : Field} {inf : TypeInfo} (ht : Nat.blt t s.n = true) (hx : getO s.env x = .adr f cs)
    (hS : P.underlying S = some (.struct fs)) (hk : fs[k]? = some fd) (hinf : P.info? fd.type = some inf) (hsz : ¬ inf.size = 0) (next : VO P C ops rest Q (s.put t ((.adr f (cs.drop fd.offset))))) : VO P C ops (⟨some t, .fieldAddr S x k, ty, pos, af, none⟩ :: rest) Q s :=
  vo_pure ht (lt_fieldAddr_adr hx hS hk hinf hsz) next

theorem isAgg_false {T : TypeId} {D : TypeDesc} (hT : P.underlying T = some D) (hD : (match D with | .struct _ | .array _ _ => true | _ => false) = false) (w : World) : (isAgg T).run P w = .ok false w := by
  cases D <;> simp_all [isAgg, run_underlying hT]

/-- A cell of a variable is read. -/
theorem lt_load_var {x : Operand} {T id e i o R : Nat} {cs : List SV} {sv : SV} {D : TypeDesc} (hx : getO s.env x = .ptr id e i o) (hrow : s.rows[id]? = some (.var R cs))
 (hT : P.underlying T = some D) (hD : (match D with | .struct _ | .array _ _ => true | _ => false) = false) (hc : cs[i * e + o]? = some sv) : Lt P C s ⟨some t, .load T x, ty, pos, af, none⟩ (sv) := by
  intro m a w hs
  obtain ⟨b, hv, hb, hid⟩ := hs.ptr hx
  have hR := hs.rows id _ hrow
  generalize hmv : m id = v at *
  cases hR with
  | var b' t' cs cur hbk hl hr h1 =>
    simp only [MV.of, blk, Option.some.injEq] at hb
    subst hb
    have hlt : i * e + o < cur.size := by rw [hl]; exact (List.getElem?_eq_some_iff.1 hc).1
    have hu : cur[i * e + o]? = some cur[i * e + o] := Array.getElem?_eq_getElem hlt
    have hcell : w.cell? ⟨b', i * e + o, none⟩ = some cur[i * e + o] := by
      rw [cell_of_row w b' _ cur R (0, 0) hbk]; exact hu
    refine ⟨cur[i * e + o], fun w' hw' => ?_, hr _ sv _ hc hu⟩
    have hcell := hw'.cell hcell
    have hagg := isAgg_false hT hD w'
    simp [execOp, Instr.loadAt, hv, Instr.sureAddr, loadVar, hagg, load, Sem.run, hcell]

theorem vo_load_var {x : Operand} {T id e i o R : Nat} {cs : List SV} {sv : SV} {D : TypeDesc} (ht : Nat.blt t s.n = true) (hx : getO s.env x = .ptr id e i o) (hrow : s.rows[id]? = some (.var R cs))
    (hT : P.underlying T = some D) (hD : (match D with | .struct _ | .array _ _ => true | _ => false) = false) (hc : cs[i * e + o]? = some sv) (next : VO P C ops rest Q (s.put t (sv))) : VO P C ops (⟨some t, .load T x, ty, pos, af, none⟩ :: rest) Q s :=
  vo_pure ht (lt_load_var hx hrow hT hD hc) next

/-- A cell of a variable is written. -/
theorem vo_store_var {x y : Operand} {T id e i o R : Nat} {cs : List SV} {f : Bool} {p : PV} {inf : TypeInfo} (hx : getO s.env x = .ptr id e i o) (hrow : s.rows[id]? = some (.var R cs))
    (hy : getO s.env y = .pv f p) (hna : p.isAgg = false) (hinf : P.info? T = some inf) (hsz : inf.size = 1) (hlt : Nat.blt (i * e + o) cs.length = true)
    (next : VO P C ops rest Q ⟨s.n, s.env, s.rows.set id (.var R (cs.set (i * e + o) (.pv f p)))⟩) : VO P C ops (⟨none, .store T x y, ty, pos, af, none⟩ :: rest) Q s := by
  refine vo_unit (s1 := { s with rows := s.rows.set id (.var R (cs.set (i * e + o) (.pv f p))) }) (fun m a w hs => ?_) next
  obtain ⟨b, hv, hb, hid⟩ := hs.ptr hx
  have hvy := hs.get y
  rw [hy] at hvy
  have hvy := hvy.pv_inv
  have hone := hvy.oneCell hna
  have hlive : liveAt s.rows id := ⟨_, hrow, rfl⟩
  have hR := hs.rows id _ hrow
  have hlt := blt_lt hlt
  generalize hmv : m id = v at *
  cases hR with
  | var b' t' cs cur hbk hl hr h1 =>
    simp only [MV.of, blk, Option.some.injEq] at hb
    subst hb
    have hcur : i * e + o < cur.size := by rw [hl]; exact hlt
    have hcell : w.cell? ⟨b', i * e + o, none⟩ = some cur[i * e + o] := by
      rw [cell_of_row w b' _ cur R (0, 0) hbk]; exact Array.getElem?_eq_getElem hcur
    have hfz : w.frozen? ⟨b', i * e + o, none⟩ = false := by
      simp [World.frozen?, hbk]
    have hcells : (a.eval y).cells.toList = [a.eval y] := by
      generalize a.eval y = u at *
      cases u <;> simp_all [Value.cells, Value.oneCell']
    have hcs1 : (a.eval y).cells.size = 1 := by
      have := congrArg List.length hcells
      simpa using this
    let w' := w.setCell ⟨b', i * e + o, none⟩ (a.eval y)
    have hst : (store (⟨b', i * e + o, none⟩ : Addr) (a.eval y)).run P w = .ok () w' := by
      rw [run_store P w _ _ _ hone, hcell]
      simp [hfz, w']
    refine ⟨w', m, ?_, ?_⟩
    · have hadd : (⟨b', i * e + o, none⟩ : Addr).add 0 = ⟨b', i * e + o, none⟩ := rfl
      simp [execOp, Instr.storeAt, hv, Instr.sureAddr, storeVar, sizeOf, typeInfo, hinf, hsz, hcs1, hcells, storeCells, hadd, hst]
    · have hg : w.grownBy w' (some b') := by
        exact ⟨rfl, rfl, rfl, by simp [w', World.setCell], fun k _ hk => heap_setCell_other w ⟨b', i * e + o, none⟩ k _ (fun e => hk (by simp [e]))⟩
      refine hs.storeRow hlive (fun b'' e => by cases e; rw [hmv]; rfl) hg _ (fun hG => ?_)
      rw [hmv]
      have hheap : w'.heap[b']? = some (.cells (cur.setIfInBounds (i * e + o) (a.eval y)) R (0, 0)) := heap_setCell_same w b' _ cur R _ hbk
      refine .var b' R _ _ hheap (by simpa using hl) (fun j c u hc hu => ?_) (fun j u hu => ?_)
      · by_cases hj : i * e + o = j
        · subst hj
          rw [List.getElem?_set_self hlt] at hc
          cases hc
          have : u = a.eval y := by
            rw [Array.getElem?_setIfInBounds] at hu
            simp [hcur] at hu
            exact hu.symm
          rw [this]
          exact .pv _ _ _ (hvy.mono (hG f))
        · rw [List.getElem?_set_ne hj] at hc
          rw [Array.getElem?_setIfInBounds] at hu
          rw [if_neg hj] at hu
          exact (hr j c u hc hu).mono hG (Nat.le_refl _) (fun _ _ => rfl)
      · by_cases hj : i * e + o = j
        · subst hj
          have : u = a.eval y := by
            rw [Array.getElem?_setIfInBounds] at hu
            simp [hcur] at hu
            exact hu.symm
          rw [this]
          exact hone
        · rw [Array.getElem?_setIfInBounds, if_neg hj] at hu
          exact h1 j u hu


theorem lt_move_ptr {x : Operand} {id e i o : Nat} (hx : getO s.env x = .ptr id e i o) : Lt P C s ⟨some t, .move x, ty, pos, af, none⟩ (.ptr id e i o) := by rw [← hx]; exact lt_move
theorem lt_assign_ptr {x : Operand} {id e i o : Nat} (hx : getO s.env x = .ptr id e i o) : Lt P C s ⟨some t, .assign x, ty, pos, af, none⟩ (.ptr id e i o) := by rw [← hx]; exact lt_assign

theorem vo_move_ptr {x : Operand} {id e i o : Nat} (ht : Nat.blt t s.n = true) (hx : getO s.env x = .ptr id e i o) (next : VO P C ops rest Q (s.put t (.ptr id e i o))) : VO P C ops (⟨some t, .move x, ty, pos, af, none⟩ :: rest) Q s :=
  vo_pure ht (lt_move_ptr hx) next

theorem vo_assign_ptr {x : Operand} {id e i o : Nat} (ht : Nat.blt t s.n = true) (hx : getO s.env x = .ptr id e i o) (next : VO P C ops rest Q (s.put t (.ptr id e i o))) : VO P C ops (⟨some t, .assign x, ty, pos, af, none⟩ :: rest) Q s :=
  vo_pure ht (lt_assign_ptr hx) next

def binB (op : BinOp) (a b : Bool) : Option PV := match op with
  | .eql => some (.bool (a == b))
  | .neq => some (.bool (!(a == b)))
  | _ => none

theorem lt_binB {op : BinOp} {xt yt : TypeId} {x y : Operand} {b1 b2 f1 f2 : Bool} {r : PV} (hx : getO s.env x = .pv f1 (.bool b1)) (hy : getO s.env y = .pv f2 (.bool b2))
    (hb : binB op b1 b2 = some r) (hT : P.underlying xt = some .bool) : Lt P C s ⟨some t, .binOp op xt x y yt, ty, pos, af, none⟩ (.pv true r) := by
  intro m a w hs
  have e1 := hs.bool hx
  have e2 := hs.bool hy
  have heq : ∀ w, (Op.equal xt (.bool b1) (.bool b2)).run P w = .ok (b1 == b2) w := by
    intro w
    show (Op.equalIn (9999 + 1) xt (.bool b1) (.bool b2)).run P w = _
    unfold Op.equalIn
    simp [run_underlying hT]
  have hg : ∀ op w, (eqGuard op xt x y (.bool b1) (.bool b2)).run P w = .ok () w := by
    intro op w
    cases op <;> rfl
  have hbin1 : ∀ w, (binOp .eql xt (.bool b1) (.bool b2)).run P w = .ok (.bool (b1 == b2)) w := by
    intro w
    show (do pure (Value.bool (← Op.equal xt (.bool b1) (.bool b2))) : Sem Value).run P w = _
    simp [heq]
  have hbin2 : ∀ w, (binOp .neq xt (.bool b1) (.bool b2)).run P w = .ok (.bool (!(b1 == b2))) w := by
    intro w
    show (do pure (Value.bool (!(← Op.equal xt (.bool b1) (.bool b2)))) : Sem Value).run P w = _
    simp [heq]
  cases op <;> simp only [binB, Option.some.injEq, reduceCtorEq] at hb
  · subst hb
    refine ⟨_, fun w' _ => ?_, .pv _ _ _ (.bool _)⟩
    simp only [execOp, e1, e2, Sem.run_bind, hg, Result.andThen_ok, hbin1]
    rfl
  · subst hb
    refine ⟨_, fun w' _ => ?_, .pv _ _ _ (.bool _)⟩
    simp only [execOp, e1, e2, Sem.run_bind, hg, Result.andThen_ok, hbin2]
    rfl

theorem vo_binB {op : BinOp} {xt yt : TypeId} {x y : Operand} {b1 b2 f1 f2 : Bool} {r : PV} (ht : Nat.blt t s.n = true) (hx : getO s.env x = .pv f1 (.bool b1)) (hy : getO s.env y = .pv f2 (.bool b2))
    (hb : binB op b1 b2 = some r) (hT : P.underlying xt = some .bool) (next : VO P C ops rest Q (s.put t (.pv true r))) : VO P C ops (⟨some t, .binOp op xt x y yt, ty, pos, af, none⟩ :: rest) Q s :=
  vo_pure ht (lt_binB hx hy hb hT) next

theorem vc_cond_t {c : Operand} {x y : Code} {fr : Bool} (hc : getO s.env c = .pv fr (.bool true)) (h : VC P C x Q s) : VC P C (.cond c x y) Q s := vc_cond hc (fun _ => h) (fun h => by cases h)
theorem vc_cond_f {c : Operand} {x y : Code} {fr : Bool} (hc : getO s.env c = .pv fr (.bool false)) (h : VC P C y Q s) : VC P C (.cond c x y) Q s := vc_cond hc (fun h => by cases h) (fun _ => h)

end

abbrev i64 (n : Int) : SV := .pv true (.int .i64 n)
abbrev bo (b : Bool) : SV := .pv true (.bool b)
abbrev intP (n : Int) : PV := .int .i64 n
abbrev boolP (b : Bool) : PV := .bool b
abbrev ints (l : List Int) : PV := .sl none 1 (l.map intP)
abbrev intss (l : List (List Int)) : PV := .sl none 1 (l.map ints)

theorem getD_ints (l : List Int) (k : Nat) : (l.map intP).getD k (.int .i64 0) = .int .i64 (l.getD k 0) := by
  simp [List.getD, List.getElem?_map]

theorem getD_bools (l : List Bool) (k : Nat) : (l.map boolP).getD k (.bool false) = .bool (l.getD k false) := by
  simp [List.getD, List.getElem?_map]

theorem getD_intss (l : List (List Int)) (k : Nat) : (l.map ints).getD k (.sl none 1 []) = .sl none 1 ((l.getD k []).map intP) := by
  simp only [List.getD, List.getElem?_map]
  cases l[k]? <;> rfl

end Go.Vl
