/- Part 3 of the texts that the proof of FnExactNextAfter is built on. -/
import Derived.Test.YtcipbgkmjhmddaaVl2
import Derived.MapKept
import Derived.Test.YtcipbgkmjhmddaaProg
import Derived.KernelRfl
/- Structs whose cells are rows of the call's own: built, boxed, read, written. -/
namespace Go.Vl
set_option linter.unusedVariables false
set_option linter.unusedSimpArgs false
open Go.RowKit

def cellsG : SV → Option (List SV)
  | .ag ys => some ys
  | .pv f p => some (p.cells.map fun c => .pv (f || c.scal) c)
  | .ref id => some [.ref id]
  | .ptr id e i o => some [.ptr id e i o]
  | _ => none

def okG (rows : List Row) : SV → Bool
  | .ref id => match rows[id]? with
    | some r => r.live
    | none => false
  | _ => true

section
variable {P : Program} {C : Ctx} {Q : Go.Exit → St → Prop} {s : St}
variable {ops : Array Oper} {rest : List Oper} {t : Nat} {ty : TypeId} {pos : String} {af : Array Edge}

theorem row_one {w : World} {G : Bool → Nat → Prop} {m : Nat → MV} {N : Nat} {mv : MV} {r : Row} (h : RowOK w G m N mv r) (hl : r.live = true) : mv.v.oneCell' = true := by
  cases h with
  | dead => cases hl
  | gh => cases hl
  | own v t e nl fr xs vs hown => rcases hown.2 with ⟨rfl, _⟩ | ⟨g, cap, cur, rfl, _⟩ <;> rfl
  | var => rfl
  | mp => rfl
  | tree mv t e nl h xs vals Sf hown => rcases hown.2 with ⟨h, _⟩ | ⟨g, cap, cur, h, _⟩ <;> rw [h] <;> rfl

theorem cells_one {v : Value} (h : v.oneCell' = true) : v.cells = #[v] := by cases v <;> simp_all [Value.cells, Value.oneCell']

theorem SimM.cellsG {m : Nat → MV} {a : Act} {w : World} (h : SimM C s m a w) {x : Operand} {ys : List SV} (hy : cellsG (getO s.env x) = some ys) (hok : okG s.rows (getO s.env x) = true) :
    (a.eval x).cells.size = ys.length ∧ (∀ (j : Nat) (c : SV) (u : Value), ys[j]? = some c → (a.eval x).cells[j]? = some u → RS w (Gd C s.rows m w) m s.rows.length c u) ∧
      (∀ (j : Nat) (u : Value), (a.eval x).cells[j]? = some u → u.oneCell' = true) := by
  have hv := h.get x
  have one : ∀ (sv : SV) (v : Value), RS w (Gd C s.rows m w) m s.rows.length sv v → v.oneCell' = true → ys = [sv] →
      v.cells.size = ys.length ∧ (∀ (j : Nat) (c : SV) (u : Value), ys[j]? = some c → v.cells[j]? = some u → RS w (Gd C s.rows m w) m s.rows.length c u) ∧ (∀ (j : Nat) (u : Value), v.cells[j]? = some u → u.oneCell' = true) := by
    intro sv v hr h1 e
    subst e
    rw [cells_one h1]
    refine ⟨rfl, fun j c u hc hu => ?_, fun j u hu => ?_⟩
    · match j, hc, hu with
      | 0, hc, hu => simp at hc hu; subst hc; subst hu; exact hr
    · match j, hu with
      | 0, hu => simp at hu; subst hu; exact h1
  generalize getO s.env x = sv at *
  generalize a.eval x = v at *
  cases hv with
  | any => cases hy
  | val => cases hy
  | und => cases hy
  | adr => cases hy
  | tup => cases hy
  | sub => cases hy
  | ag vs us hl h9 h1 => cases hy; exact ⟨hl, h9, h1⟩
  | ref id hid =>
    simp only [Vl.cellsG, Option.some.injEq] at hy
    simp only [okG] at hok
    split at hok
    · rename_i r hr
      exact one _ _ (.ref id hid) (row_one (h.rows id r hr) hok) hy.symm
    · cases hok
  | ptr id e i o b hid hb =>
    simp only [Vl.cellsG, Option.some.injEq] at hy
    exact one _ _ (.ptr id e i o b hid hb) rfl hy.symm
  | pv fr p v hp =>
    simp only [Vl.cellsG, Option.some.injEq] at hy
    subst hy
    have hc := hp.cells
    refine ⟨by simpa using hc.1, fun j c u hcj hu => ?_, fun j u hu => ?_⟩
    · simp only [List.getElem?_map, Option.map_eq_some_iff] at hcj
      obtain ⟨c', hc', rfl⟩ := hcj
      obtain ⟨u', hu', hp'⟩ := hc.2 j c' hc'
      rw [hu] at hu'
      cases hu'
      cases hsc : c'.scal with
      | true => simp only [Bool.or_true]; exact .pv _ _ _ (hp'.scal_any hsc)
      | false => simp only [Bool.or_false]; exact .pv _ _ _ hp'
    · have hj : j < p.cells.length := by rw [← hc.1]; exact (Array.getElem?_eq_some_iff.1 hu).1
      obtain ⟨u', hu', hp'⟩ := hc.2 j _ (List.getElem?_eq_getElem hj)
      rw [hu] at hu'
      cases hu'
      refine hp'.oneCell ?_
      cases hp with
      | agg cs vs hl h1 h9 => exact h1 j _ (List.getElem?_eq_getElem hj)
      | _ => simp only [PV.cells] at hj ⊢; have : j = 0 := by simpa using hj
             subst this; rfl

/-- A struct is read from a variable. -/
theorem lt_load_varG {x : Operand} {T id e i o R n : Nat} {cs : List SV} {D : TypeDesc} {inf : TypeInfo} (hx : getO s.env x = .ptr id e i o) (hrow : s.rows[id]? = some (.var R cs))
    (hT : P.underlying T = some D) (hD : D.isRow = true) (hinf : P.info? T = some inf) (hsz : inf.size = n) (hle : Nat.ble (i * e + o + n) cs.length = true) :
    Lt P C s ⟨some t, .load T x, ty, pos, af, none⟩ (.ag ((cs.drop (i * e + o)).take n)) := by
  intro m a w hs
  have hle := Nat.le_of_ble_eq_true hle
  obtain ⟨b, cur, hv, _, hbk, hl, hr, h1⟩ := hs.var hx hrow
  have hget : ∀ j, ((cur.toList.drop (i * e + o)).take n)[j]? = if j < n then cur[i * e + o + j]? else none := by
    intro j
    rw [List.getElem?_take]
    split
    · rw [List.getElem?_drop]; simp
    · rfl
  refine ⟨.agg ((cur.toList.drop (i * e + o)).take n).toArray, fun w' hw' => ?_, ?_⟩
  · have := run_loadAt_mid (P := P) w' b (i * e + o) T ((cur.toList.drop (i * e + o)).take n) D (fun j v hj => by
      rw [hget] at hj
      split at hj
      · exact hw'.cell (by rw [cell_of_row w b _ cur R (0, 0) hbk]; exact hj)
      · cases hj) hT hD (by rw [hinf]; simp [hsz]; omega)
    simp [execOp, hv, this]
  · refine .ag _ _ (by simp; omega) (fun j c u hc hu => ?_) (fun j u hu => ?_)
    · have hu : ((cur.toList.drop (i * e + o)).take n)[j]? = some u := by simpa using hu
      rw [hget] at hu
      rw [List.getElem?_take, List.getElem?_drop] at hc
      split at hu
      · rename_i hj; rw [if_pos hj] at hc; exact hr _ c u hc hu
      · cases hu
    · have hu : ((cur.toList.drop (i * e + o)).take n)[j]? = some u := by simpa using hu
      rw [hget] at hu
      split at hu
      · exact h1 _ u hu
      · cases hu

theorem vo_load_varG {x : Operand} {T id e i o R n : Nat} {cs : List SV} {D : TypeDesc} {inf : TypeInfo} (ht : Nat.blt t s.n = true) (hx : getO s.env x = .ptr id e i o) (hrow : s.rows[id]? = some (.var R cs))
    (hT : P.underlying T = some D) (hD : D.isRow = true) (hinf : P.info? T = some inf) (hsz : inf.size = n) (hle : Nat.ble (i * e + o + n) cs.length = true)
    (next : VO P C ops rest Q (s.put t (.ag ((cs.drop (i * e + o)).take n)))) : VO P C ops (⟨some t, .load T x, ty, pos, af, none⟩ :: rest) Q s := vo_pure ht (lt_load_varG hx hrow hT hD hinf hsz hle) next

/-- A value of whatever cells is written into a variable. -/
theorem vo_store_varG {x y : Operand} {T id e i o R : Nat} {cs ys : List SV} {inf : TypeInfo} (hx : getO s.env x = .ptr id e i o) (hrow : s.rows[id]? = some (.var R cs))
    (hy : cellsG (getO s.env y) = some ys) (hok : okG s.rows (getO s.env y) = true) (hinf : P.info? T = some inf) (hsz : inf.size = ys.length) (hle : Nat.ble (i * e + o + ys.length) cs.length = true)
    (next : VO P C ops rest Q ⟨s.n, s.env, s.rows.set id (.var R (cs.take (i * e + o) ++ ys ++ cs.drop (i * e + o + ys.length)))⟩) :
    VO P C ops (⟨none, .store T x y, ty, pos, af, none⟩ :: rest) Q s := by
  refine vo_unit (s1 := { s with rows := s.rows.set id (.var R (cs.take (i * e + o) ++ ys ++ cs.drop (i * e + o + ys.length))) }) (fun m a w hs => ?_) next
  have hle := Nat.le_of_ble_eq_true hle
  obtain ⟨b, cur, hv, hm, hbk, hl, hr, h1⟩ := hs.var hx hrow
  obtain ⟨hvl, h, hone1⟩ := hs.cellsG hy hok
  have hone : ∀ u ∈ (a.eval y).cells.toList, u.oneCell' = true := by
    intro u hu
    obtain ⟨j, hj⟩ := List.getElem?_of_mem hu
    exact hone1 j u (by simpa using hj)
  generalize hvs : (a.eval y).cells = vs at *
  have hrun := run_storeCells_at P b (i * e + o) R vs.toList 0 cur w hbk (by simp; omega) hone
  simp only [Nat.add_zero, Array.length_toList, hvl] at hrun
  let cur' := (cur.toList.take (i * e + o) ++ vs.toList ++ cur.toList.drop (i * e + o + ys.length)).toArray
  refine ⟨w.setRow b cur', m, ?_, ?_⟩
  · simp [execOp, Instr.storeAt, hv, Instr.sureAddr, storeVar, sizeOf, typeInfo, hinf, hsz, hvs, hvl, hrun, cur']
  · refine hs.storeRow ⟨_, hrow, rfl⟩ (fun b' e => by cases e; rw [hm]; rfl) (grown_setRow w b cur') _ (fun hG => ?_)
    rw [hm]
    have hheap := setRow_heap w b cur cur' R _ hbk
    have hget : ∀ j, cur'[j]? = if j < i * e + o then cur[j]? else if j < i * e + o + ys.length then vs[j - (i * e + o)]? else cur[j]? := by
      intro j
      simp only [cur', List.getElem?_toArray]
      rw [List.getElem?_append, List.getElem?_append]
      simp only [List.length_append, List.length_take, Array.length_toList, hvl]
      have e1 : min (i * e + o) cur.size = i * e + o := by omega
      rw [e1]
      split
      · split
        · rw [List.getElem?_take, if_pos (by assumption)]; simp
        · simp
      · rw [List.getElem?_drop, show i * e + o + ys.length + (j - (i * e + o + ys.length)) = j by omega]; simp
    have hget2 : ∀ j, (cs.take (i * e + o) ++ ys ++ cs.drop (i * e + o + ys.length))[j]? = if j < i * e + o then cs[j]? else if j < i * e + o + ys.length then ys[j - (i * e + o)]? else cs[j]? := by
      intro j
      rw [List.getElem?_append, List.getElem?_append]
      simp only [List.length_append, List.length_take]
      have e1 : min (i * e + o) cs.length = i * e + o := by omega
      rw [e1]
      split
      · split
        · rw [List.getElem?_take, if_pos (by assumption)]
        · rfl
      · rw [if_neg (by omega), List.getElem?_drop, show i * e + o + ys.length + (j - (i * e + o + ys.length)) = j by omega]
    refine .var b R _ cur' hheap (by simp [cur']; omega) (fun j c u hc hu => ?_) (fun j u hu => ?_)
    · rw [hget2] at hc
      rw [hget] at hu
      split at hc
      · rename_i h3; rw [if_pos h3] at hu; exact (hr j c u hc hu).mono hG (Nat.le_refl _) (fun _ _ => rfl)
      · rename_i h3
        rw [if_neg h3] at hu
        split at hc
        · rename_i h4
          rw [if_pos h4] at hu
          exact (h _ c u hc hu).mono hG (Nat.le_refl _) (fun _ _ => rfl)
        · rename_i h4; rw [if_neg h4] at hu; exact (hr j c u hc hu).mono hG (Nat.le_refl _) (fun _ _ => rfl)
    · rw [hget] at hu
      split at hu
      · exact h1 j u hu
      · split at hu
        · exact hone u (by rw [Array.mem_toList_iff]; exact Array.mem_of_getElem? hu)
        · exact h1 j u hu

/-- A struct of whatever cells gets a variable of its own. -/
theorem vo_boxG {x : Operand} {S : TypeId} {ys : List SV} (ht : Nat.blt t s.n = true) (hy : cellsG (getO s.env x) = some ys) (hok : okG s.rows (getO s.env x) = true)
    (next : VO P C ops rest Q ⟨s.n, (t, .ptr s.rows.length 0 0 0) :: s.env, s.rows ++ [.var S ys]⟩) :
    VO P C ops (⟨some t, .box S x, ty, pos, af, none⟩ :: rest) Q s := by
  refine vo_value (s1 := { s with rows := s.rows ++ [.var S ys] }) (sv := .ptr s.rows.length 0 0 0) ht (fun m a w hs => ?_) next
  obtain ⟨hvl, h, hone1⟩ := hs.cellsG hy hok
  generalize hvs : (a.eval x).cells = vs at *
  have hadd := hs.addRow (w' := w.alloc (.cells vs S)) (World.grownBy_alloc w _ none) (.var S ys) (.of <| .pointer (some ⟨w.heap.size, 0, none⟩))
    (fun b hb => by simp [MV.of, blk] at hb; omega) (fun hG => .var w.heap.size S _ vs (heap_alloc_new w _) hvl (fun j c u hc hu => (h j c u hc hu).mono (N' := s.rows.length + 1) hG (by omega) (fun i hi => updM_ne _ _ (by omega))) hone1)
  refine ⟨.pointer (some ⟨w.heap.size, 0, none⟩), _, _, by simp [execOp, Instr.box, newVar, newRow, hvs], hadd.1, ?_⟩
  exact .ptr s.rows.length 0 0 0 w.heap.size (by simp) (by rw [updM_same]; rfl)

/-- A struct whose cells are all plain is plain. -/
theorem vo_agpv {l : List Oper} (u : Nat) {cs : List SV} {f : Bool} {ps : List PV} (hu : look s.env u = .ag cs) (hc : collectC cs = some (f, ps))
    (next : VO P C ops l Q ⟨s.n, (u, .pv f (.agg ps)) :: s.env, s.rows⟩) : VO P C ops l Q s := by
  intro a w ⟨m, hs⟩
  refine next a w ⟨m, { hs with env := fun v => ?_ }⟩
  show RS _ _ _ _ (look ((u, .pv f (.agg ps)) :: s.env) v) _
  rw [look_cons]
  split
  · rename_i e
    subst e
    have hv := hs.env v
    rw [hu] at hv
    obtain ⟨c1, c2⟩ := collectC_get hc
    generalize a.tmps.getD v undef = x at hv
    cases hv with
    | ag _ us hl h h1 =>
      refine .pv _ _ _ (.agg ps us (by rw [hl, c1]) (fun j p hp => ?_) (fun j p u hp hu => ?_))
      · obtain ⟨g, h3, _⟩ := c2 j p hp
        have hlt : j < us.size := by rw [hl]; exact (List.getElem?_eq_some_iff.1 h3).1
        have hu := Array.getElem?_eq_getElem hlt
        exact (h _ _ _ h3 hu).pv_inv.notAgg (h1 _ _ hu)
      · obtain ⟨g, h3, h4⟩ := c2 j p hp
        exact RP.flag (G := Gd C s.rows m w) (fun b hb => hb.weak) (h _ _ _ h3 hu).pv_inv h4
  · exact hs.env v

def applyG (pl : List (Nat × Nat)) : List SV → List (Nat × List SV) → Option (List SV)
  | cs, [] => some cs
  | cs, (k, p) :: r => match pl[k]? with
    | some (off, sz) => bif Nat.beq p.length sz && Nat.ble (off + sz) cs.length then applyG pl (cs.take off ++ p ++ cs.drop (off + sz)) r else none
    | none => none

def collectG (env : List (Nat × SV)) (rows : List Row) : List (Nat × Operand) → Option (List (Nat × List SV))
  | [] => some []
  | (k, x) :: r => match cellsG (getO env x), collectG env rows r with
    | some ys, some ps => bif okG rows (getO env x) then some ((k, ys) :: ps) else none
    | _, _ => none

theorem fill_applyG {w : World} {G : Bool → Nat → Prop} {m : Nat → MV} {N : Nat} {pl : List (Nat × Nat)} : ∀ (ps : List (Nat × List SV)) (vs : List (Nat × Value)) (cs out : List SV) (zc : Array Value), RS w G m N (.ag cs) (.agg zc) → applyG pl cs ps = some out →
    ps.length = vs.length → (∀ (j : Nat) (k : Nat) (p : List SV), ps[j]? = some (k, p) → ∃ v, vs[j]? = some (k, v) ∧ RS w G m N (.ag p) (.agg v.cells)) → ∃ zc', Instr.fill (pl.toArray[·]?) zc vs = some zc' ∧ RS w G m N (.ag out) (.agg zc')
  | [], [], cs, out, zc, h0, ha, _, _ => by simp [applyG] at ha; subst ha; exact ⟨zc, rfl, h0⟩
  | [], _ :: _, _, _, _, _, _, hl, _ => by simp at hl
  | _ :: _, [], _, _, _, _, _, hl, _ => by simp at hl
  | (k, p) :: ps, (k', v) :: vs, cs, out, zc, h0, ha, hl, hv => by
    obtain ⟨v', hv1, hv2⟩ := hv 0 k p rfl
    simp at hv1
    obtain ⟨rfl, hvv⟩ := hv1
    subst hvv
    simp only [applyG] at ha
    split at ha
    · rename_i off sz hpl
      cases hb : Nat.beq p.length sz && Nat.ble (off + sz) cs.length with
      | false => rw [hb] at ha; simp at ha
      | true =>
        rw [hb] at ha
        simp only [cond_true] at ha
        simp only [Bool.and_eq_true] at hb
        obtain ⟨b1, b2⟩ := hb
        have b1 := Nat.eq_of_beq_eq_true b1
        have b2 := Nat.le_of_ble_eq_true b2
        cases hv2 with
        | ag _ _ hvl hvr hv1 =>
        cases h0 with
        | ag _ _ hzl h0 h1 =>
          have hfold := Great.foldl_set off v.cells.toList 0 zc
          let zc2 := v.cells.zipIdx.foldl (fun cs (c, j) => cs.setIfInBounds (off + j) c) zc
          have hz2 : zc2 = (v.cells.toList.zipIdx 0).foldl (fun cs (x : Value × Nat) => cs.setIfInBounds (off + x.2) x.1) zc := by
            simp only [zc2]
            rw [← Array.foldl_toList, Array.toList_zipIdx]
          have hget : ∀ q, zc2[q]? = if off ≤ q ∧ q < off + sz then v.cells[q - off]? else zc[q]? := by
            intro q
            rw [hz2, hfold.2 q]
            simp only [Nat.add_zero, Array.length_toList, hvl, b1, hzl, Array.getElem?_toList]
            by_cases hq : off ≤ q ∧ q < off + sz
            · rw [if_pos ⟨hq.1, hq.2, by omega⟩, if_pos hq]
            · rw [if_neg (by omega), if_neg hq]
          have hcget : ∀ q, (cs.take off ++ p ++ cs.drop (off + sz))[q]? = if off ≤ q ∧ q < off + sz then p[q - off]? else cs[q]? := by
            intro q
            have ht : (cs.take off).length = off := by rw [List.length_take]; omega
            by_cases hq : off ≤ q ∧ q < off + sz
            · rw [if_pos hq, List.append_assoc, List.getElem?_append_right (by omega), ht, List.getElem?_append_left (by omega)]
            · rw [if_neg hq]
              rcases Nat.lt_or_ge q off with h | h
              · rw [List.append_assoc, List.getElem?_append_left (by omega), List.getElem?_take, if_pos h]
              · rw [List.getElem?_append_right (by rw [List.length_append]; omega), List.length_append, ht, b1, List.getElem?_drop]
                congr 1
                omega
          have hsz2 : zc2.size = zc.size := by rw [hz2]; exact hfold.1
          have hnew : RS w G m N (.ag (cs.take off ++ p ++ cs.drop (off + sz))) (.agg zc2) := by
            refine .ag _ _ ?_ (fun j c u hc hu => ?_) (fun j u hu => ?_)
            · rw [hsz2, hzl]
              simp only [List.length_append, List.length_take, List.length_drop]
              omega
            · rw [hcget] at hc
              rw [hget] at hu
              by_cases hq : off ≤ j ∧ j < off + sz
              · rw [if_pos hq] at hc hu
                exact hvr _ c u hc hu
              · rw [if_neg hq] at hc hu
                exact h0 j c u hc hu
            · rw [hget] at hu
              by_cases hq : off ≤ j ∧ j < off + sz
              · rw [if_pos hq] at hu; exact hv1 _ u hu
              · rw [if_neg hq] at hu; exact h1 j u hu
          obtain ⟨zc', hf, hr⟩ := fill_applyG ps vs _ out zc2 hnew ha (by simpa using hl) (fun j k2 p2 hj => by
            have := hv (j + 1) k2 p2 (by simpa using hj)
            simpa using this)
          refine ⟨zc', ?_, hr⟩
          have hpl2 : pl.toArray[k']? = some (off, sz) := by simpa using hpl
          simp only [Instr.fill, hpl2]
          rw [if_neg (by simp only [bne_iff_ne, ne_eq, Bool.or_eq_true, decide_eq_true_eq, hvl, b1, hzl]; simp; omega)]
          exact hf
    · cases ha

theorem collectG_vals {m : Nat → MV} {a : Act} {w : World} (h : SimM C s m a w) : ∀ (l : List (Nat × Operand)) (ps : List (Nat × List SV)), collectG s.env s.rows l = some ps →
    ps.length = l.length ∧ ∀ (j : Nat) (k : Nat) (p : List SV), ps[j]? = some (k, p) → ∃ v, (l.map fun q => (q.1, a.eval q.2))[j]? = some (k, v) ∧ RS w (Gd C s.rows m w) m s.rows.length (.ag p) (.agg v.cells)
  | [], ps, hc => by
    simp [collectG] at hc
    subst hc
    exact ⟨rfl, fun j k p hx => by simp at hx⟩
  | (k, x) :: l, ps, hc => by
    simp only [collectG] at hc
    split at hc
    · rename_i ys ps' hx hr
      cases hok : okG s.rows (getO s.env x) with
      | false => rw [hok] at hc; cases hc
      | true =>
        rw [hok] at hc
        simp only [cond_true, Option.some.injEq] at hc
        subst hc
        obtain ⟨h2, h3⟩ := collectG_vals h l ps' hr
        obtain ⟨g1, g2, g3⟩ := h.cellsG hx hok
        refine ⟨by simp [h2], fun j k2 p2 hy => ?_⟩
        cases j with
        | zero => simp at hy; obtain ⟨rfl, rfl⟩ := hy; exact ⟨a.eval x, rfl, .ag _ _ g1 g2 g3⟩
        | succ j =>
          simp only [List.getElem?_cons_succ] at hy
          obtain ⟨v, hv1, hv2⟩ := h3 j k2 p2 hy
          exact ⟨v, by simpa using hv1, hv2⟩
    · cases hc

/-- A struct is built of whatever cells. -/
theorem lt_buildG {S : TypeId} {parts : Array (Nat × Operand)} {pl : List (Nat × Nat)} {zs : List PV} {out : List SV} {ps : List (Nat × List SV)} (hS : StInfo P S pl zs)
    (hp : collectG s.env s.rows parts.toList = some ps) (ha : applyG pl (zs.map fun c => .pv true c) ps = some out) : Lt P C s ⟨some t, .build S parts, ty, pos, af, none⟩ (.ag out) := by
  intro m a w hs
  obtain ⟨⟨fs, hu⟩, zc, hb, hz⟩ := hS
  obtain ⟨h1, h2⟩ := collectG_vals hs parts.toList ps hp
  have hz0 : RS w (Gd C s.rows m w) m s.rows.length (.ag (zs.map fun c => .pv true c)) (.agg zc) := by
    have := hz w (Gd C s.rows m w true)
    cases this with
    | agg _ _ hl h1 h =>
      refine .ag _ _ (by simpa using hl) (fun j c u hc hu => ?_) (fun j u hu => ?_)
      · simp only [List.getElem?_map, Option.map_eq_some_iff] at hc
        obtain ⟨c', hc', rfl⟩ := hc
        exact .pv _ _ _ (h j c' u hc' hu)
      · have hj : j < zs.length := by rw [← hl]; exact (Array.getElem?_eq_some_iff.1 hu).1
        exact (h j _ u (List.getElem?_eq_getElem hj) hu).oneCell (h1 j _ (List.getElem?_eq_getElem hj))
  obtain ⟨zc', hf, hr⟩ := fill_applyG ps (parts.toList.map fun q => (q.1, a.eval q.2)) _ out zc hz0 ha (by simp [h1]) h2
  refine ⟨.agg zc', fun w' _ => ?_, hr⟩
  have hpl : (parts.map fun (i, x) => (i, a.eval x)).toList = parts.toList.map fun q => (q.1, a.eval q.2) := by rw [Array.toList_map]
  have := run_build (P := P) w' S (parts.map fun (i, x) => (i, a.eval x)) zc' (by rw [hpl, hb]; exact hf)
  simp only [execOp, Sem.run_bind, this, Result.andThen_ok]
  rfl

theorem vo_buildG {S : TypeId} {parts : Array (Nat × Operand)} {pl : List (Nat × Nat)} {zs : List PV} {out : List SV} {ps : List (Nat × List SV)} (hS : StInfo P S pl zs) (ht : Nat.blt t s.n = true)
    (hp : collectG s.env s.rows parts.toList = some ps) (ha : applyG pl (zs.map fun c => .pv true c) ps = some out) (next : VO P C ops rest Q (s.put t (.ag out))) : VO P C ops (⟨some t, .build S parts, ty, pos, af, none⟩ :: rest) Q s :=
  vo_pure ht (lt_buildG hS hp ha) next

/-- A field of one cell. -/
theorem lt_field1G {x : Operand} {S k : Nat} {cs : List SV} {c : SV} {fs : Array Field} {fd : Field} {D : TypeDesc} (hx : getO s.env x = .ag cs) (hS : P.underlying S = some (.struct fs)) (hk : fs[k]? = some fd)
    (hT : P.underlying fd.type = some D) (hD : D.isRow = false) (hc : cs[fd.offset]? = some c) :
    Lt P C s ⟨some t, .field S x k, ty, pos, af, none⟩ c := by
  intro m a w hs
  have hv := hs.get x
  rw [hx] at hv
  generalize hav : a.eval x = v at hv
  cases hv with
  | ag _ vs hl h h1 =>
    have hlt : fd.offset < vs.size := by rw [hl]; exact (List.getElem?_eq_some_iff.1 hc).1
    have hu := Array.getElem?_eq_getElem hlt
    refine ⟨vs[fd.offset], fun w' _ => ?_, h _ c _ hc hu⟩
    have hagg : (isAgg fd.type).run P w' = .ok false w' := by
      cases D <;> simp_all [isAgg, run_underlying hT]
    simp [execOp, hav, Instr.field, run_underlying hS, hk, asAgg, part, hagg, hu]

theorem vo_field1G {x : Operand} {S k : Nat} {cs : List SV} {c : SV} {fs : Array Field} {fd : Field} {D : TypeDesc} (ht : Nat.blt t s.n = true) (hx : getO s.env x = .ag cs) (hS : P.underlying S = some (.struct fs)) (hk : fs[k]? = some fd)
    (hT : P.underlying fd.type = some D) (hD : D.isRow = false) (hc : cs[fd.offset]? = some c)
    (next : VO P C ops rest Q (s.put t c)) : VO P C ops (⟨some t, .field S x k, ty, pos, af, none⟩ :: rest) Q s := vo_pure ht (lt_field1G hx hS hk hT hD hc) next
end
end Go.Vl

/- 'append' to a row whose cells' type is not known (it was taken out of another), and a tree's cell that is known. -/
namespace Go.Vl
set_option linter.unusedVariables false
set_option linter.unusedSimpArgs false
open Go.RowKit
section
variable {P : Program} {C : Ctx} {Q : Go.Exit → St → Prop} {s : St} {ops : Array Oper} {rest : List Oper} {t : Nat} {ty : TypeId} {pos : String} {af : Array Edge}

theorem vo_valueX {α : Type} {op : Op} {s1 : α → St} {sv : SV} (ht : ∀ x, Nat.blt t (s1 x).n = true)
    (hrun : ∀ m a w, SimM C s m a w → ∃ x v w' m', (execOp a.eval ⟨some t, op, ty, pos, af, none⟩).run P w = .ok (.value v) w' ∧ SimM C (s1 x) m' a w' ∧ RS w' (Gd C (s1 x).rows m' w') m' (s1 x).rows.length sv v)
    (next : ∀ x, VO P C ops rest Q ((s1 x).put t sv)) : VO P C ops (⟨some t, op, ty, pos, af, none⟩ :: rest) Q s := by
  intro a w ⟨m, hs⟩
  obtain ⟨x, v, w', m', hr, hs', hv⟩ := hrun m a w hs
  refine wpList_plain rfl fun K hK => ?_
  unfold Oper.wp
  rw [hr, Oper.upon_value]
  exact hK _ _ (next x _ _ ⟨m', hs'.put (blt_lt (ht x)) hv⟩)

theorem run_none_any {w : World} {T ty el R : TypeId} {i : TypeInfo} {size n : Nat} {v : Value} {xs : List Value} (hT : P.underlying T = some (.slice el)) (hi : P.info? el = some i) (hown : w.ownsRow 0 R size v n xs) :
    (Builtin.append_ #[T, T] ty #[v, .slice none 0 0]).run P w = .ok v w := by
  rcases hown.2 with ⟨rfl, rfl⟩ | ⟨g, cap, cur, rfl, _, _, hnc, _⟩
  · simp [Builtin.append_, run_underlying hT, sizeOf, typeInfo, hi, Builtin.lenOf, Builtin.firstCells, loadCells, loadCellsFrom]
  · simp [Builtin.append_, run_underlying hT, sizeOf, typeInfo, hi, Builtin.lenOf, Builtin.firstCells, loadCells, loadCellsFrom, hnc, storeCells]

theorem run_append_any (w : World) {T ty el R : TypeId} {i : TypeInfo} {z : Value} {size bytes : Nat} (hT : P.underlying T = some (.slice el)) (hi : P.info? el = some i) (hz : i.zero = some z) (hsize : i.size = size) (hby : i.bytes = bytes) (hzs : z.cells.size = size) (hsz : 0 < size)
    {v : Value} {n : Nat} {xs : List Value} (hown : w.ownsRow 0 R size v n xs) (ad : Addr) {k : Nat} (c : Nat) {news : List Value} (hl : news.length = k * size) (hnews : ∀ j u, news[j]? = some u → w.cell? (ad.add j) = some u) (h1 : ∀ u ∈ news, u.oneCell' = true)
    (h63 : n + k ≤ maxLen) (hbytes : (n + k) * bytes ≤ 140737488355328) :
    ∃ v' w' R2, (Builtin.append_ #[T, T] ty #[v, .slice (some ad) k c]).run P w = .ok v' w' ∧ w'.ownsRow 0 R2 size v' (n + k) (xs ++ news) ∧ w.grownBy w' v.ownBlock ∧ (v' = .slice none 0 0 → v = .slice none 0 0) ∧
      (v'.ownBlock = v.ownBlock ∨ v'.ownBlock = some w.heap.size) := by
  rcases hown.2 with ⟨rfl, rfl⟩ | ⟨g, cap, cur, rfl, _, hg, hnc, hcm, hcs, htake⟩
  · have hx : xs = [] := List.eq_nil_of_length_eq_zero (by simpa using hown.1)
    subst hx
    obtain ⟨v', w', a1, a2, a3, a4, a5⟩ := run_append_own_at (P := P) w 0 T ty el i z size bytes hT hi hz hsize hby hzs hsz (.slice none 0 0) 0 [] (World.ownsRow_nil w 0 el size) ad k c news hl hnews h1 h63 hbytes (Nat.zero_le _)
    exact ⟨v', w', el, a1, a2, a3, fun h => (a4.1 h).1, a5⟩
  · subst hsize hby
    have hlen : (xs ++ news).length = (n + k) * i.size := by rw [List.length_append, hown.1, hl, Nat.add_mul]
    by_cases hroom : n + k ≤ cap
    · have hfit : n * i.size + news.length ≤ cur.size := by rw [hl, hcs, ← Nat.add_mul]; exact Nat.mul_le_mul_right _ hroom
      have hf := run_firstCells_some (P := P) w i.size k ad k c news hl hnews
      have hst := run_storeCells_at P g (n * i.size) R news 0 cur w hg (by simpa using hfit) h1
      simp only [Nat.add_zero] at hst
      have hrun : (Builtin.append_ #[T, T] ty #[.slice (some ⟨g, 0, none⟩) n cap, .slice (some ad) k c]).run P w = .ok (.slice (some ⟨g, 0, none⟩) (n + k) cap) (w.setRow g (cur.toList.take (n * i.size) ++ news ++ cur.toList.drop (n * i.size + news.length)).toArray) := by
        simp [Builtin.append_, run_underlying hT, sizeOf, typeInfo, hi, Builtin.lenOf, hroom, hf, Addr.add_lit, hst]
      refine ⟨_, _, R, hrun, ⟨hlen, .inr ⟨g, cap, _, rfl, Nat.zero_le _, setRow_heap w g cur _ R _ hg, hroom, hcm, ?_, ?_⟩⟩,
        ⟨rfl, rfl, rfl, by simp, fun j _ hj => setRow_other w g j _ (fun e => hj (by simp [Value.ownBlock, e]))⟩, (fun h => by cases h), .inl rfl⟩
      · simp only [List.size_toArray, List.length_append, List.length_take, List.length_drop, Array.length_toList]
        omega
      · rw [htake, ← hlen]
        exact List.take_left
    · have holds : ∀ j u, xs[j]? = some u → w.cell? ((⟨g, 0, none⟩ : Addr).add j) = some u := hown.cells (g := g) rfl
      have hr := run_append_grow (P := P) w T ty el i z hT hi hz ⟨g, 0, none⟩ n cap xs hown.1 holds ad k c news hl hnews (by omega) (by simp only [maxLen] at h63; omega) (growslice_fits (by omega) hbytes)
      have hge := grownCap_ge w (n + k) cap el
      refine ⟨_, _, el, hr, ⟨hlen, .inr ⟨w.heap.size, _, _, rfl, Nat.zero_le _, heap_alloc_new w.drew _, hge, grownCap_le_maxLen w (n + k) cap el h63, ?_, ?_⟩⟩, ⟨rfl, rfl, rfl, by simp, fun j hj _ => heap_alloc_old w.drew _ hj⟩, (fun h => by cases h), .inr rfl⟩
      · simp only [Array.size_append, List.size_toArray, size_zeroCells, hzs, hown.1, hl, ← Nat.add_mul]
        congr 1
        omega
      · simp only [Array.toList_append, List.append_assoc]
        rw [← List.append_assoc, ← hlen]
        exact List.take_left

/-- 'append' to a row whose cells' type is not known. -/
theorem vo_appendU {x y : Operand} {id T el R e by' : Nat} {nl : Option Bool} {fr f : Bool} {xs ys : List PV} {d : PV} (hI : ElInfo P T el e by' d) (ht : Nat.blt t s.n = true) (hnb : C.nb ≤ id)
    (hx : getO s.env x = .ref id) (hrow : s.rows[id]? = some (.own R e nl fr xs)) (hy : srcOf s.rows (getO s.env y) = some (f, e, ys))
    (hby : (xs.length + ys.length) * by' ≤ 140737488355328) (hmx : xs.length + ys.length ≤ 9223372036854775807)
    (next : ∀ R2, VO P C ops rest Q ⟨s.n, (t, .ref id) :: killE id s.env, (s.rows.map (Row.kill id)).set id (.own R2 e (if nl = some false then some false else none) (fr && f) (xs ++ ys))⟩) :
    VO P C ops (⟨some t, .call ⟨.builtin .append, #[x, y], #[T, T]⟩, ty, pos, af, none⟩ :: rest) Q s := by
  obtain ⟨hT, ⟨inf, z, hinf, hsz, hbytes, hz, hzs, hzr⟩, hfit, he⟩ := hI
  refine vo_valueX (s1 := fun R2 => { s with env := killE id s.env, rows := (s.rows.map (Row.kill id)).set id (.own R2 e (if nl = some false then some false else none) (fr && f) (xs ++ ys)) }) (sv := .ref id) (fun _ => ht) (fun m a w hs => ?_) next
  obtain ⟨hv, hid⟩ := hs.row hx
  have hlive : liveAt s.rows id := ⟨_, hrow, rfl⟩
  have hR := hs.rows id _ hrow
  have hsrc := hs.src hy he
  obtain ⟨ao, cap0, hshape, hcap0⟩ := own_shape hR
  have hV : (m id).v = .slice ao xs.length cap0 := by rw [hshape]; rfl
  have hSb : ∀ b, blk (m id).v = some b → (m id).S b := by rw [hshape]; exact fun _ h => h
  have hob : (m id).v.ownBlock = blk (m id).v := ownBlock_blk hV
  have hdone : ∀ (v' : Value) (w' : World), (Builtin.append_ #[T, T] ty #[a.eval x, a.eval y]).run P w = .ok v' w' →
      ∃ v' w' , (execOp a.eval ⟨some t, .call ⟨.builtin .append, #[x, y], #[T, T]⟩, ty, pos, af, none⟩).run P w = .ok (.value v') w' ∧ (Builtin.append_ #[T, T] ty #[a.eval x, a.eval y]).run P w = .ok v' w' := by
    intro v' w' h
    exact ⟨v', w', by simp [execOp, resolve, invoke, builtin, h], h⟩
  have hRk : ∀ R2 : TypeId, Row.kill id (.own R2 e (if nl = some false then some false else none) (fr && f) (xs ++ ys)) = .own R2 e (if nl = some false then some false else none) (fr && f) (xs ++ ys) := fun _ => rfl
  have fin : ∀ (R2 : TypeId) (v' : Value) (w' : World) (news : List Value), (Builtin.append_ #[T, T] ty #[a.eval x, a.eval y]).run P w = .ok v' w' → w.grownBy w' (blk (m id).v) → (∀ vs, w.ownsRow 0 R e (m id).v xs.length vs → w'.ownsRow 0 R2 e v' (xs.length + ys.length) (vs ++ news)) →
      (v' = .slice none 0 0 → (m id).v = .slice none 0 0) → (∀ b, blk v' = some b → (m id).S b ∨ w.heap.size ≤ b) →
      (∀ (i : Nat) (x : PV) (j : Nat) (c : PV), ys[i]? = some x → x.cells[j]? = some c → ∃ u, news[i * e + j]? = some u ∧ RP w (Gd C s.rows m w f) c u) → (∀ (i : Nat) (x : PV), ys[i]? = some x → x.fits e) →
      ∃ (R2 : TypeId) (v : Value) (w' : World) (m' : Nat → MV), (execOp a.eval ⟨some t, .call ⟨.builtin .append, #[x, y], #[T, T]⟩, ty, pos, af, none⟩).run P w = .ok (.value v) w' ∧
        SimM C { s with env := killE id s.env, rows := (s.rows.map (Row.kill id)).set id (.own R2 e (if nl = some false then some false else none) (fr && f) (xs ++ ys)) } m' a w' ∧
        RS w' (Gd C ((s.rows.map (Row.kill id)).set id (.own R2 e (if nl = some false then some false else none) (fr && f) (xs ++ ys))) m' w') m' ((s.rows.map (Row.kill id)).set id (.own R2 e (if nl = some false then some false else none) (fr && f) (xs ++ ys))).length (.ref id) v := by
    intro R2 v' w' news hrun hg hown hnil hblk hnews hfits
    refine ⟨R2, v', w', updM m id (.of v'), by simp [execOp, resolve, invoke, builtin, hrun], ?_, ?_⟩
    · refine hs.moveRow hlive hnb hSb hg _ (.of v') (hRk R2) hblk (fun hG => ?_)
      generalize hmv : m id = v at *
      cases hR with
      | own v t' e nl fr xs vs hown0 h1 h2 hw hr =>
        have hw0 : ∀ fl b, Gd C s.rows m w fl b → Gd C s.rows m w false b := fun fl b h => h.weak
        have hcomb : ∀ b, (Gd C s.rows m w fr b ∨ Gd C s.rows m w f b) → Gd C s.rows m w (fr && f) b := by
          intro b hb
          cases hf1 : fr && f with
          | false => rcases hb with hb | hb <;> exact hb.weak
          | true =>
            simp only [Bool.and_eq_true] at hf1
            obtain ⟨rfl, rfl⟩ := hf1
            rcases hb with hb | hb <;> exact hb
        refine .own v' R2 e _ _ (xs ++ ys) (vs ++ news) (by simpa using hown vs hown0) (fun h => by split at h <;> simp at h) (fun h => ?_) (fits_append hw hfits)
          (own_append (G := Gd C s.rows m w (fr && f)) (hG _) hown0.1 (fun i x j c hx hc => ?_) hw (fun i x j c hx hc => ?_))
        · split at h
          · rename_i hnl
            intro hv'
            exact h2 hnl (hnil hv')
          · simp at h
        · obtain ⟨u, hu, hp⟩ := hr i x j c hx hc
          exact ⟨u, hu, hp.mono fun b hb => ⟨hcomb b (.inl hb), rfl⟩⟩
        · obtain ⟨u, hu, hp⟩ := hnews i x j c hx hc
          exact ⟨u, hu, hp.mono fun b hb => hG _ b (hcomb b (.inr hb))⟩
    · have := RS.ref (w := w') (G := Gd C ((s.rows.map (Row.kill id)).set id (.own R2 e (if nl = some false then some false else none) (fr && f) (xs ++ ys))) (updM m id (.of v')) w') (m := updM m id (.of v'))
        (N := ((s.rows.map (Row.kill id)).set id (.own R2 e (if nl = some false then some false else none) (fr && f) (xs ++ ys))).length) id (by simpa using hid)
      rw [updM_same] at this
      exact this
  rcases hsrc with ⟨hvy, rfl⟩ | ⟨ad, len, cap, news, hvy, rfl, hnl, hnews, hnr, hn1, hfy⟩
  · have hown1 : ∃ vs, w.ownsRow 0 R e (m id).v xs.length vs := by
      generalize m id = v at *
      cases hR with
      | own v t' e nl fr xs vs hown0 => exact ⟨vs, hown0⟩
    obtain ⟨vs1, hown1⟩ := hown1
    refine fin R (m id).v w [] ?_ ⟨rfl, rfl, rfl, Nat.le_refl _, fun _ _ _ => rfl⟩ (fun vs h => by simpa using h) (fun h => h) (fun b hb => .inl (hSb b hb)) (fun i x j c hx => by simp at hx) (fun i x hx => by simp at hx)
    rw [hv, hvy]
    exact run_none_any hT hinf hown1
  · have hown1 : ∃ vs, w.ownsRow 0 R e (m id).v xs.length vs := by
      generalize m id = v at *
      cases hR with
      | own v t' e nl fr xs vs hown0 => exact ⟨vs, hown0⟩
    obtain ⟨vs1, hown1⟩ := hown1
    obtain ⟨v', w', R2, hrun, hown', hg, hnil, hblk⟩ := run_append_any w hT hinf hz hsz hbytes hzs he hown1 ad cap hnl hnews hn1
      (by simpa [maxLen] using hmx) hby
    have hv'shape : v'.ownBlock = blk v' := by
      rcases hown'.2 with ⟨rfl, _⟩ | ⟨g, cp, cur, rfl, _⟩ <;> rfl
    refine fin R2 v' w' news (by rw [hv, hvy]; exact hrun) (by rw [← hob]; exact hg) (fun vs h => ?_) (fun h => hnil h) (fun b hb => ?_) hnr hfy
    · have e1 : vs = vs1 := by
        rcases h.2 with ⟨e1, h0⟩ | ⟨g, cp, cur, e1, _, hh, _, _, _, htk⟩
        · have l1 := h.1
          have l2 := hown1.1
          rw [h0] at l1 l2
          simp at l1 l2
          rw [l1, l2]
        · rcases hown1.2 with ⟨e2, h0⟩ | ⟨g2, cp2, cur2, e2, _, hh2, _, _, _, htk2⟩
          · rw [e1] at e2; cases e2
          · rw [e1] at e2
            cases e2
            rw [hh] at hh2
            cases hh2
            rw [← htk, ← htk2]
      rw [e1]
      exact hown'
    · rw [← hv'shape] at hb
      rcases hblk with h1 | h1
      · left; refine hSb b ?_; rw [← hob, ← h1]; exact hb
      · right; rw [h1] at hb; cases hb; exact Nat.le_refl _


/-- One cell of a row whose slices are its own becomes known. -/
theorem SimM.know {m : Nat → MV} {a : Act} {w : World} (hs : SimM C s m a w) (id i : Nat) {R : TypeId} {nl : Option Bool} {xs : List PV} (hrow : s.rows[id]? = some (.tree R 1 nl none xs)) (hi : i < xs.length) :
    ∃ u, SimM C ⟨s.n, s.env, s.rows.set id (.tree R 1 nl (some (i, some u)) xs)⟩ m a w := by
  have hR := hs.rows id _ hrow
  have hv : ∃ u, ∀ G m2 N2, RowOK w G m2 N2 (m id) (.tree R 1 nl (some (i, some u)) xs) := by
    generalize m id = v at *
    cases hR with
    | tree mv t' e nl h xs vals Sf hown h1 h2 hw hr hd hn hz hS hkn =>
      have hil : i < vals.length := by rw [hown.1]; omega
      refine ⟨vals[i], fun G m2 N2 => .tree v R 1 nl _ xs vals Sf hown h1 h2 hw (fun i x j c u hx hc hu => ?_) hd hn hz hS (fun q u h => ?_)⟩
      · exact .inl (hr i x j c u hx hc hu).tp
      · cases h; exact List.getElem?_eq_getElem hil
  obtain ⟨u, hu⟩ := hv
  exact ⟨u, hs.storeRow (w' := w) (bo := none) ⟨_, hrow, rfl⟩ (fun _ e => by cases e) ⟨rfl, rfl, rfl, Nat.le_refl _, fun _ _ _ => rfl⟩ _ (fun hG => hu _ _ _)⟩
theorem vc_know {code : Code} (id i : Nat) {R : TypeId} {nl : Option Bool} {xs : List PV} (hrow : s.rows[id]? = some (.tree R 1 nl none xs)) (hi : i < xs.length)
    (next : ∀ u, VC P C code Q ⟨s.n, s.env, s.rows.set id (.tree R 1 nl (some (i, some u)) xs)⟩) : VC P C code Q s := fun a w ⟨m, hs⟩ => by
  obtain ⟨u, hu⟩ := hs.know id i hrow hi
  exact next u a w ⟨m, hu⟩

/-- A cell of a row whose slices are its own, where it is known. -/
theorem lt_load_known {x : Operand} {T id R i : Nat} {nl : Option Bool} {u : Value} {xs : List PV} {D : TypeDesc} (hx : getO s.env x = .ptr id 1 i 0) (hrow : s.rows[id]? = some (.tree R 1 nl (some (i, some u)) xs))
    (hT : P.underlying T = some D) (hD : D.isRow = false) (hi : i < xs.length) : Lt P C s ⟨some t, .load T x, ty, pos, af, none⟩ (.val u) := by
  intro m a w hs
  obtain ⟨b, hv, hb, hid⟩ := hs.ptr hx
  have hR := hs.rows id _ hrow
  have hcell : w.cell? ⟨b, i, none⟩ = some u := by
    generalize m id = v at *
    cases hR with
    | tree mv t' e nl h xs vals Sf hown h1 h2 hw hr hd hn hz hS hkn =>
      rcases hown.2 with ⟨e0, hn0⟩ | ⟨g, cap, cur, e0, _, hheap, hle, hmx, hcs, htk⟩
      · omega
      · have hgb : b = g := by rw [e0] at hb; simpa [blk] using hb.symm
        subst hgb
        have hu := hkn i u rfl
        rw [cell_of_row w b _ cur R (0, 0) hheap, ← Array.getElem?_toList]
        rw [← hu, ← htk, List.getElem?_take, if_pos (by omega)]
  refine ⟨u, fun w' hw' => ?_, .val u⟩
  have hcell := hw'.cell hcell
  have hagg : (isAgg T).run P w' = .ok false w' := by
    cases D <;> simp_all [isAgg, run_underlying hT]
  simp only [Nat.mul_one, Nat.add_zero] at hv
  simp [execOp, Instr.loadAt, hv, Instr.sureAddr, loadVar, hagg, load, Sem.run, hcell]
end
section
variable {late : List Nat} {P : Program} {C : Ctx} {ops : Array Oper} {K : St → Prop} {s s1 : St} {n : Nat} {listed : Array Bool}
def StepV (late : List Nat) (P : Program) (C : Ctx) (ops : Array Oper) (n : Nat) (listed : Array Bool) (K : St → Prop) (s : St) (i : Nat) : Prop :=
  ∀ m a w, SimM C s m a w → wpOp P ops (post0 C K) i (fun a' w' => (ExtW w w' ∨ late.contains i = true) ∧ anyL late P ops (post0 C K) n (listed.setIfInBounds i true) a' w') a w
theorem vl_any2 (i j : Nat) (hr : Region.ready .any ops listed = [i, j]) (h1 : StepV late P C ops n listed K s i) (h2 : StepV late P C ops n listed K s j) : VL late P C ops (n + 1) listed K s := by
  intro m a w hs
  refine ⟨fun h0 => (by rw [hr] at h0; cases h0), fun q hq => ?_⟩
  rw [hr] at hq
  simp at hq
  rcases hq with rfl | rfl
  · exact h1 m a w hs
  · exact h2 m a w hs
theorem vl_any3 (i j k : Nat) (hr : Region.ready .any ops listed = [i, j, k]) (h1 : StepV late P C ops n listed K s i) (h2 : StepV late P C ops n listed K s j) (h3 : StepV late P C ops n listed K s k) : VL late P C ops (n + 1) listed K s := by
  intro m a w hs
  refine ⟨fun h0 => (by rw [hr] at h0; cases h0), fun q hq => ?_⟩
  rw [hr] at hq
  simp at hq
  rcases hq with rfl | rfl | rfl
  · exact h1 m a w hs
  · exact h2 m a w hs
  · exact h3 m a w hs
theorem sv_ext (i : Nat) {t : Nat} {op : Op} {ty : TypeId} {pos : String} {af : Array Edge} {sv : SV} (hi : ops[i]? = some ⟨some t, op, ty, pos, af, none⟩) (ht : Nat.blt t s1.n = true)
    (hx : Xt P C s ⟨some t, op, ty, pos, af, none⟩ s1 sv) (next : VL late P C ops n (listed.setIfInBounds i true) K (s1.put t sv)) : StepV late P C ops n listed K s i := by
  intro m a w hs
  obtain ⟨v, w', m', h1, h2, h3, h4⟩ := hx m a w hs
  unfold wpOp
  simp only [hi]
  have hw : Region.wanted ⟨some t, op, ty, pos, af, none⟩ (yielded ops a.tmps) = true := by simp [Region.wanted]
  rw [if_pos hw]
  left
  unfold Oper.wp
  rw [h1, Oper.upon_value]
  exact ⟨.inl h4, next m' _ _ (h2.put (blt_lt ht) h3)⟩
end
end Go.Vl

/- Rows of structs whose slices are their own: an element's slices are taken out as rows, and put back. -/
namespace Go.Vl
set_option linter.unusedVariables false
set_option linter.unusedSimpArgs false
open Go.RowKit

/-- Rows are told anew, and may be written: whatever they hold comes from rows that were there, or is new. -/
theorem SimM.remapE {C : Ctx} {s : St} {m : Nat → MV} {a : Act} {w w' : World} (h : SimM C s m a w) {bo : Option Nat} (hg : w.grownBy w' bo) (hbo : ∀ b, bo = some b → ∃ k, liveAt s.rows k ∧ (m k).S b)
    (env' : List (Nat × SV)) (rows' : List Row) (m' : Nat → MV) (hnbl : C.nb ≤ rows'.length) (hbor : ∀ i, i < C.nb → m' i = m i)
    (hsrc : ∀ j b, liveAt rows' j → (m' j).S b → (∃ k, liveAt s.rows k ∧ (m k).S b ∧ (C.nb ≤ j → C.nb ≤ k)) ∨ w.heap.size ≤ b)
    (hdist : ∀ i j b, liveAt rows' i → liveAt rows' j → (m' i).S b → (m' j).S b → i = j)
    (hrows : (∀ fr b, Gd C s.rows m w fr b → Gd C rows' m' w' fr b ∧ w'.heap[b]? = w.heap[b]?) → ∀ j q, rows'[j]? = some q → RowOK w' (Gd C rows' m' w') m' rows'.length (m' j) q)
    (henv : (∀ fr b, Gd C s.rows m w fr b → Gd C rows' m' w' fr b ∧ w'.heap[b]? = w.heap[b]?) → ∀ t, RS w' (Gd C rows' m' w') m' rows'.length (look env' t) (a.tmps.getD t undef)) :
    SimM C ⟨s.n, env', rows'⟩ m' a w' := by
  have hG : ∀ fr b, Gd C s.rows m w fr b → Gd C rows' m' w' fr b ∧ w'.heap[b]? = w.heap[b]? := by
    refine Gd.step (fun b => bo = some b) hg.size (fun k hk hn => hg.block k hk (fun e => hn e.symm)) (fun k hk => let ⟨i, h1, h2⟩ := hbo k hk; ⟨i, h1, h2⟩) (fun b hlt ⟨j, hl, hbk⟩ => ?_)
    rcases hsrc j b hl hbk with ⟨k, h1, h2, _⟩ | h1
    · exact ⟨k, h1, h2⟩
    · omega
  exact {
    defs := h.defs
    size := h.size
    os := hg.os.trans h.os
    tape := hg.tape.trans h.tape
    output := hg.output.trans h.output
    hsz := Nat.le_trans h.hsz hg.size
    old := fun k hk hn => by
      refine (hg.block k (by have := h.hsz; omega) (fun e => ?_)).trans (h.old k hk hn)
      obtain ⟨i, h1, h2⟩ := hbo k e.symm
      by_cases hi : i < C.nb
      · exact hn i hi (by rw [← h.bor i hi]; exact h2)
      · have := h.newb i k (by omega) h1 h2; omega
    bor := fun i hi => by rw [hbor i hi]; exact h.bor i hi
    nbl := hnbl
    newb := fun j b hj hl hbk => by
      rcases hsrc j b hl hbk with ⟨k, h1, h2, h3⟩ | h1
      · exact h.newb k b (h3 hj) h1 h2
      · have := h.hsz; omega
    dist := hdist
    rows := hrows hG
    env := henv hG }

theorem SimM.remap {C : Ctx} {s : St} {m : Nat → MV} {a : Act} {w w' : World} (h : SimM C s m a w) {bo : Option Nat} (hg : w.grownBy w' bo) (hbo : ∀ b, bo = some b → ∃ k, liveAt s.rows k ∧ (m k).S b)
    (rows' : List Row) (m' : Nat → MV) (hN : s.rows.length ≤ rows'.length) (hv : ∀ i, i < s.rows.length → (m' i).v = (m i).v) (hbor : ∀ i, i < C.nb → m' i = m i)
    (hsrc : ∀ j b, liveAt rows' j → (m' j).S b → (∃ k, liveAt s.rows k ∧ (m k).S b ∧ (C.nb ≤ j → C.nb ≤ k)) ∨ w.heap.size ≤ b)
    (hdist : ∀ i j b, liveAt rows' i → liveAt rows' j → (m' i).S b → (m' j).S b → i = j)
    (hrows : (∀ fr b, Gd C s.rows m w fr b → Gd C rows' m' w' fr b ∧ w'.heap[b]? = w.heap[b]?) → ∀ j q, rows'[j]? = some q → RowOK w' (Gd C rows' m' w') m' rows'.length (m' j) q) :
    SimM C ⟨s.n, s.env, rows'⟩ m' a w' :=
  h.remapE hg hbo s.env rows' m' (by have := h.nbl; omega) hbor hsrc hdist hrows (fun hG t => (h.env t).monoV hG hN hv)

theorem grown_refl (w : World) : w.grownBy w none := ⟨rfl, rfl, rfl, Nat.le_refl _, fun _ _ _ => rfl⟩

def okTake : PV → Bool
  | .sl _ _ _ => true
  | c => c.scal

def takePV (c : PV) : PV := match c with
  | .sl _ _ _ => .gone
  | c => c

def takeP : PV → PV
  | .agg cs => .agg (cs.map takePV)
  | c => takePV c

def takeSV : Nat → List PV → List SV
  | _, [] => []
  | N, .sl _ _ _ :: cs => .ref N :: takeSV (N + 1) cs
  | N, c :: cs => .pv true c :: takeSV N cs

def takeRows (Rf : Nat → TypeId) : Nat → List PV → List Row
  | _, [] => []
  | k, .sl nl e xs :: cs => .tree (Rf k) e nl none xs :: takeRows Rf (k + 1) cs
  | k, _ :: cs => takeRows Rf k cs

/-- The places of the slices among cells. -/
def takePos : Nat → List PV → List Nat
  | _, [] => []
  | j, .sl _ _ _ :: cs => j :: takePos (j + 1) cs
  | j, _ :: cs => takePos (j + 1) cs

theorem takePos_ge : ∀ (cs : List PV) (j q : Nat), q ∈ takePos j cs → j ≤ q
  | [], j, q, h => by simp [takePos] at h
  | c :: cs, j, q, h => by
    cases c with
    | sl nl e xs =>
      simp only [takePos, List.mem_cons] at h
      rcases h with rfl | h
      · exact Nat.le_refl _
      · have := takePos_ge cs (j + 1) q h; omega
    | _ => simp only [takePos] at h; have := takePos_ge cs (j + 1) q h; omega

theorem takePos_inj : ∀ (cs : List PV) (j k k' q : Nat), (takePos j cs)[k]? = some q → (takePos j cs)[k']? = some q → k = k'
  | [], j, k, k', q, h, _ => by simp [takePos] at h
  | c :: cs, j, k, k', q, h, h' => by
    cases c with
    | sl nl e xs =>
      simp only [takePos] at h h'
      cases k with
      | zero =>
        cases k' with
        | zero => rfl
        | succ k' =>
          simp only [List.getElem?_cons_zero, Option.some.injEq, List.getElem?_cons_succ] at h h'
          have := takePos_ge cs (j + 1) q (List.mem_of_getElem? h')
          omega
      | succ k =>
        cases k' with
        | zero =>
          simp only [List.getElem?_cons_zero, Option.some.injEq, List.getElem?_cons_succ] at h h'
          have := takePos_ge cs (j + 1) q (List.mem_of_getElem? h)
          omega
        | succ k' =>
          simp only [List.getElem?_cons_succ] at h h'
          rw [takePos_inj cs (j + 1) k k' q h h']
    | _ => simp only [takePos] at h h'; exact takePos_inj cs (j + 1) k k' q h h'

/-- What each new row is. -/
theorem takeRows_get (Rf : Nat → TypeId) : ∀ (cs : List PV) (j k0 k : Nat) (r : Row), (takeRows Rf k0 cs)[k]? = some r → ∃ q nl e xs, (takePos j cs)[k]? = some (j + q) ∧ cs[q]? = some (.sl nl e xs) ∧ r = .tree (Rf (k0 + k)) e nl none xs
  | [], j, k0, k, r, h => by simp [takeRows] at h
  | c :: cs, j, k0, k, r, h => by
    cases c with
    | sl nl e xs =>
      simp only [takeRows, takePos] at h ⊢
      cases k with
      | zero => simp only [List.getElem?_cons_zero, Option.some.injEq] at h; exact ⟨0, nl, e, xs, by simp, by simp, h.symm⟩
      | succ k =>
        simp only [List.getElem?_cons_succ] at h
        obtain ⟨q, nl', e', xs', h1, h2, h3⟩ := takeRows_get Rf cs (j + 1) (k0 + 1) k r h
        exact ⟨q + 1, nl', e', xs', by simp only [List.getElem?_cons_succ, h1]; congr 1; omega, by simpa using h2, by rw [h3]; congr 2; omega⟩
    | _ =>
      simp only [takeRows, takePos] at h ⊢
      obtain ⟨q, nl', e', xs', h1, h2, h3⟩ := takeRows_get Rf cs (j + 1) k0 k r h
      exact ⟨q + 1, nl', e', xs', by rw [h1]; congr 1; omega, by simpa using h2, h3⟩

theorem takeRows_len (Rf : Nat → TypeId) : ∀ (cs : List PV) (j k : Nat), (takeRows Rf k cs).length = (takePos j cs).length
  | [], j, k => rfl
  | c :: cs, j, k => by
    cases c with
    | sl nl e xs => simp only [takeRows, takePos, List.length_cons]; rw [takeRows_len Rf cs (j + 1) (k + 1)]
    | _ => simp only [takeRows, takePos]; exact takeRows_len Rf cs (j + 1) k

theorem takeSV_len : ∀ (cs : List PV) (N : Nat), (takeSV N cs).length = cs.length
  | [], _ => rfl
  | c :: cs, N => by cases c <;> simp [takeSV, takeSV_len cs]

/-- What each cell of the element is, once its slices are rows. -/
theorem takeSV_get : ∀ (cs : List PV) (j N q : Nat) (c : PV) (x : SV), cs[q]? = some c → (takeSV N cs)[q]? = some x → (x = .pv true c ∧ takePV c = c) ∨ ∃ k, (takePos j cs)[k]? = some (j + q) ∧ x = .ref (N + k)
  | [], j, N, q, c, x, h, _ => by simp at h
  | d :: cs, j, N, q, c, x, h, h' => by
    cases q with
    | zero =>
      simp only [List.getElem?_cons_zero, Option.some.injEq] at h
      subst h
      cases d with
      | sl nl e xs =>
        simp only [takeSV, List.getElem?_cons_zero, Option.some.injEq] at h'
        exact .inr ⟨0, by simp [takePos], h'.symm⟩
      | _ => simp only [takeSV, List.getElem?_cons_zero, Option.some.injEq] at h'; exact .inl ⟨h'.symm, rfl⟩
    | succ q =>
      simp only [List.getElem?_cons_succ] at h
      cases d with
      | sl nl e xs =>
        simp only [takeSV, List.getElem?_cons_succ] at h'
        rcases takeSV_get cs (j + 1) (N + 1) q c x h h' with h1 | ⟨k, h1, h2⟩
        · exact .inl h1
        · exact .inr ⟨k + 1, by simp only [takePos, List.getElem?_cons_succ, h1]; congr 1; omega, by rw [h2]; congr 1; omega⟩
      | _ =>
        simp only [takeSV, List.getElem?_cons_succ] at h'
        rcases takeSV_get cs (j + 1) N q c x h h' with h1 | ⟨k, h1, h2⟩
        · exact .inl h1
        · exact .inr ⟨k, by simp only [takePos, h1]; congr 1; omega, h2⟩

theorem takeP_cells {e : Nat} {p : PV} (h : p.fits e) : (takeP p).cells = p.cells.map takePV := by
  cases p with
  | agg cs => rfl
  | sl nl e xs => rfl
  | _ => rfl

theorem takePV_agg (c : PV) (h : c.isAgg = false) : (takePV c).isAgg = false := by cases c <;> simp_all [takePV, PV.isAgg]

theorem takeP_fits {e : Nat} {p : PV} (h : p.fits e) : (takeP p).fits e := by
  refine ⟨by rw [takeP_cells h]; simpa using h.1, fun j c hc => ?_⟩
  rw [takeP_cells h] at hc
  simp only [List.getElem?_map, Option.map_eq_some_iff] at hc
  obtain ⟨c', hc', rfl⟩ := hc
  exact takePV_agg c' (h.2 j c' hc')

section
variable {P : Program} {C : Ctx} {Q : Go.Exit → St → Prop} {s : St} {ops : Array Oper} {rest : List Oper} {t : Nat} {ty : TypeId} {pos : String} {af : Array Edge}

/-- The cells of an element of a row whose slices are its own. -/
theorem SimM.elemT {m : Nat → MV} {a : Act} {w : World} (hs : SimM C s m a w) {x : Operand} {id R e i o : Nat} {nl : Option Bool} {xs : List PV} (hx : getO s.env x = .ptr id e i o) (hrow : s.rows[id]? = some (.tree R e nl none xs)) {p : PV} (hget : xs[i]? = some p) :
    ∃ (b : Nat) (vals : List Value) (Sf : Nat → Nat → Prop), a.eval x = .pointer (some ⟨b, i * e + o, none⟩) ∧ blk (m id).v = some b ∧ w.ownsRow 0 R e (m id).v xs.length vals ∧ p.fits e ∧
      (∀ q, q < xs.length * e → w.cell? ⟨b, q, none⟩ = vals[q]?) ∧
      (∀ (k : Nat) (y : PV) (j : Nat) (c : PV) (u : Value), xs[k]? = some y → y.cells[j]? = some c → vals[k * e + j]? = some u → TP w c u (Sf (k * e + j))) ∧
      (∀ q q' b, Sf q b → Sf q' b → q = q') ∧ (∀ q b, Sf q b → blk (m id).v ≠ some b) ∧ (∀ q b, xs.length * e ≤ q → ¬ Sf q b) ∧ (∀ b, (m id).S b ↔ blk (m id).v = some b ∨ ∃ q, Sf q b) ∧
      (nl = some true → (m id).v = .slice none 0 0) ∧ (nl = some false → (m id).v ≠ .slice none 0 0) ∧ (∀ (k : Nat) (y : PV), xs[k]? = some y → y.fits e) ∧
      ∃ (cap : Nat) (cur : Array Value), (m id).v = .slice (some ⟨b, 0, none⟩) xs.length cap ∧ w.heap[b]? = some (.cells cur R (0, 0)) ∧ xs.length ≤ cap ∧ cap ≤ maxLen ∧ cur.size = cap * e ∧ cur.toList.take (xs.length * e) = vals := by
  obtain ⟨b, hv, hb, hid⟩ := hs.ptr hx
  have hR := hs.rows id _ hrow
  have hi : i < xs.length := (List.getElem?_eq_some_iff.1 hget).1
  generalize hmv : m id = v at *
  cases hR with
  | tree mv t' e nl h xs vals Sf hown h1 h2 hw hr hd hn hz hS hkn =>
    rcases hown.2 with ⟨e0, hn0⟩ | ⟨g, cap, cur, e0, h00, hheap, hle, hmx, hcs, htk⟩
    · omega
    · have hgb : b = g := by rw [e0] at hb; simpa [blk] using hb.symm
      subst hgb
      refine ⟨b, vals, Sf, hv, hb, hown, hw i p hget, fun q hq => ?_, fun k y j c u hy hc hu => (hr k y j c u hy hc hu).tp, hd, hn, hz, hS, h1, h2, hw, cap, cur, e0, hheap, hle, hmx, hcs, htk⟩
      rw [cell_of_row w b _ cur R (0, 0) hheap, ← htk, List.getElem?_take, if_pos hq]
      simp

/-- An element's slices are taken out of a row. -/
theorem SimM.takeRow {m : Nat → MV} {a : Act} {w : World} (hs : SimM C s m a w) {id R e i : Nat} {nl : Option Bool} {xs : List PV} (hnb : C.nb ≤ id) (hrow : s.rows[id]? = some (.tree R e nl none xs)) {p : PV} (hget : xs[i]? = some p) (hok : p.cells.all okTake = true)
    {vals : List Value} {Sf : Nat → Nat → Prop} (hown : w.ownsRow 0 R e (m id).v xs.length vals)
    (hr : ∀ (k : Nat) (y : PV) (j : Nat) (c : PV) (u : Value), xs[k]? = some y → y.cells[j]? = some c → vals[k * e + j]? = some u → TP w c u (Sf (k * e + j)))
    (hd : ∀ q q' b, Sf q b → Sf q' b → q = q') (hn : ∀ q b, Sf q b → blk (m id).v ≠ some b) (hz : ∀ q b, xs.length * e ≤ q → ¬ Sf q b) (hS : ∀ b, (m id).S b ↔ blk (m id).v = some b ∨ ∃ q, Sf q b)
    (h1 : nl = some true → (m id).v = .slice none 0 0) (h2 : nl = some false → (m id).v ≠ .slice none 0 0) (hw : ∀ (k : Nat) (y : PV), xs[k]? = some y → y.fits e) :
    ∃ (Rf : Nat → TypeId) (m' : Nat → MV), SimM C ⟨s.n, s.env, s.rows.set id (.tree R e nl none (xs.set i (takeP p))) ++ takeRows Rf 0 p.cells⟩ m' a w ∧
      (∀ fr b, Gd C s.rows m w fr b → Gd C (s.rows.set id (.tree R e nl none (xs.set i (takeP p))) ++ takeRows Rf 0 p.cells) m' w fr b) ∧
      (∀ j, j < s.rows.length → (m' j).v = (m j).v) ∧
      (∀ (k j : Nat), (takePos 0 p.cells)[k]? = some j → (m' (s.rows.length + k)).v = vals.getD (i * e + j) undef ∧ s.rows.length + k < (s.rows.set id (.tree R e nl none (xs.set i (takeP p))) ++ takeRows Rf 0 p.cells).length) := by
  have hid : id < s.rows.length := (List.getElem?_eq_some_iff.1 hrow).1
  have hlid : liveAt s.rows id := ⟨_, hrow, rfl⟩
  have hi : i < xs.length := (List.getElem?_eq_some_iff.1 hget).1
  have hf := hw i p hget
  let ps := takePos 0 p.cells
  have hpos : ∀ (k j : Nat), ps[k]? = some j → ∃ nl' e' ys, p.cells[j]? = some (.sl nl' e' ys) ∧ ∃ Rt, RowOK w (fun _ _ => False) (fun _ => default) 0 ⟨vals.getD (i * e + j) undef, Sf (i * e + j)⟩ (.tree Rt e' nl' none ys) := by
    intro k j hk
    have hlen := takeRows_len (fun _ => 0) p.cells 0 0
    have hk1 : k < (takeRows (fun _ => 0) 0 p.cells).length := by rw [hlen]; exact (List.getElem?_eq_some_iff.1 hk).1
    obtain ⟨q, nl', e', ys, g1, g2, _⟩ := takeRows_get (fun _ => 0) p.cells 0 0 k _ (List.getElem?_eq_getElem hk1)
    have hjq : j = q := by
      have g1' : ps[k]? = some (0 + q) := g1
      rw [hk] at g1'
      have := Option.some.inj g1'
      omega
    subst hjq
    have hj : j < e := by rw [← hf.1]; exact (List.getElem?_eq_some_iff.1 g2).1
    have hlt : i * e + j < vals.length := by
      rw [hown.1]
      have := Nat.mul_le_mul_right e (show i + 1 ≤ xs.length by omega)
      rw [Nat.add_mul] at this
      omega
    have hu : vals[i * e + j]? = some (vals.getD (i * e + j) undef) := by rw [List.getD_eq_getElem?_getD, List.getElem?_eq_getElem hlt]; rfl
    have hT := hr i p j _ _ hget g2 hu
    refine ⟨nl', e', ys, g2, ?_⟩
    generalize vals.getD (i * e + j) undef = u at *
    generalize Sf (i * e + j) = S1 at *
    cases hT with
    | scal _ _ _ hsc => simp [PV.scal] at hsc
    | sl tc _ _ _ _ vals2 Sf2 _ hown2 g1 g2 gw gr gd gn gz gS =>
      exact ⟨tc, .tree ⟨u, S1⟩ tc e' nl' none ys vals2 Sf2 hown2 g1 g2 gw (fun k y j c u hy hc hu => .inl (gr k y j c u hy hc hu)) gd gn gz gS (fun _ _ h => by cases h)⟩
  obtain ⟨Rf, hRf⟩ : ∃ Rf : Nat → TypeId, ∀ (k j : Nat) (nl' : Option Bool) (e' : Nat) (ys : List PV), ps[k]? = some j → p.cells[j]? = some (.sl nl' e' ys) → RowOK w (fun _ _ => False) (fun _ => default) 0 ⟨vals.getD (i * e + j) undef, Sf (i * e + j)⟩ (.tree (Rf k) e' nl' none ys) := by
    refine Classical.axiomOfChoice (r := fun k Rt => ∀ (j : Nat) (nl' : Option Bool) (e' : Nat) (ys : List PV), ps[k]? = some j → p.cells[j]? = some (.sl nl' e' ys) → RowOK w (fun _ _ => False) (fun _ => default) 0 ⟨vals.getD (i * e + j) undef, Sf (i * e + j)⟩ (.tree Rt e' nl' none ys)) (fun k => ?_)
    cases hk : ps[k]? with
    | none => exact ⟨0, fun j nl' e' ys h => by cases h⟩
    | some j =>
      obtain ⟨nl1, e1, ys1, h3, Rt, h4⟩ := hpos k j hk
      refine ⟨Rt, fun j' nl' e' ys h5 h6 => ?_⟩
      cases h5
      rw [h3] at h6
      have h6 := Option.some.inj h6
      injection h6 with q1 q2 q3
      rw [← q1, ← q2, ← q3]
      exact h4
  let Sf' : Nat → Nat → Prop := fun q b => Sf q b ∧ ¬ ∃ k j : Nat, ps[k]? = some j ∧ q = i * e + j
  let S' : Nat → Prop := fun b => blk (m id).v = some b ∨ ∃ q, Sf' q b
  let N := s.rows.length
  let pj : Nat → Nat := fun k => (ps[k]?).getD 0
  let m' : Nat → MV := fun x => if x < N then (if x = id then ⟨(m id).v, S'⟩ else m x) else ⟨vals.getD (i * e + pj (x - N)) undef, Sf (i * e + pj (x - N))⟩
  let rows' := s.rows.set id (.tree R e nl none (xs.set i (takeP p))) ++ takeRows Rf 0 p.cells
  have hlen' : rows'.length = N + (takeRows Rf 0 p.cells).length := by simp [rows', N]
  have hrl : (takeRows Rf 0 p.cells).length = ps.length := takeRows_len Rf p.cells 0 0
  have hmI : m' id = ⟨(m id).v, S'⟩ := by simp [m', N, hid]
  have hmO : ∀ j, j < N → j ≠ id → m' j = m j := fun j h1 h2 => by show (if j < N then (if j = id then _ else _) else _) = _; rw [if_pos h1, if_neg h2]
  have hmN : ∀ k, m' (N + k) = ⟨vals.getD (i * e + pj k) undef, Sf (i * e + pj k)⟩ := fun k => by show (if N + k < N then (if N + k = id then _ else _) else _) = _; rw [if_neg (by omega), Nat.add_sub_cancel_left]
  have hmv : ∀ j, j < N → (m' j).v = (m j).v := fun j hj => by
    by_cases e : j = id
    · subst e; rw [hmI]
    · rw [hmO j hj e]
  have hlive : ∀ j, liveAt rows' j → (j < N ∧ liveAt s.rows j) ∨ ∃ k q, j = N + k ∧ ps[k]? = some q := by
    intro j ⟨r, hq, hv⟩
    simp only [rows'] at hq
    rw [List.getElem?_append] at hq
    split at hq
    · rename_i hlt
      exact .inl ⟨by simpa using hlt, liveAt_set ⟨r, hq, hv⟩ hlid⟩
    · rename_i hge
      simp only [List.length_set] at hge hq
      have hk : j - s.rows.length < ps.length := by rw [← hrl]; exact (List.getElem?_eq_some_iff.1 hq).1
      exact .inr ⟨j - N, ps[j - N], by omega, List.getElem?_eq_getElem hk⟩
  have hSfS : ∀ q b, Sf q b → (m id).S b := fun q b h => (hS b).2 (.inr ⟨q, h⟩)
  have hsrc : ∀ j b, liveAt rows' j → (m' j).S b → ∃ k, liveAt s.rows k ∧ (m k).S b ∧ (C.nb ≤ j → C.nb ≤ k) := by
    intro j b hl hb
    rcases hlive j hl with ⟨g1, g2⟩ | ⟨k, q, rfl, hq⟩
    · by_cases e : j = id
      · subst e
        rw [hmI] at hb
        exact ⟨j, g2, hb.elim (fun h => (hS b).2 (.inl h)) (fun ⟨q, h⟩ => hSfS q b h.1), fun h => h⟩
      · rw [hmO j g1 e] at hb
        exact ⟨j, g2, hb, fun h => h⟩
    · rw [hmN] at hb
      exact ⟨id, hlid, hSfS _ b hb, fun _ => hnb⟩
  have hpjk : ∀ (k q : Nat), ps[k]? = some q → pj k = q := fun k q h => by simp [pj, h]
  refine ⟨Rf, m', hs.remap (grown_refl w) (fun b h => by cases h) rows' m' (by rw [hlen']; exact Nat.le_add_right _ _) hmv (fun j hj => hmO j (by omega) (by omega)) (fun j b hl hb => .inl (hsrc j b hl hb)) ?_ ?_, ?_, hmv, ?_⟩
  · intro j1 j2 b g1 g2 hb1 hb2
    have key : ∀ j k q, j < N → liveAt s.rows j → ps[k]? = some q → (m' j).S b → (m' (N + k)).S b → False := by
      intro j k q g1 g2 hq hc1 hc2
      rw [hmN, hpjk k q hq] at hc2
      by_cases e1 : j = id
      · rw [e1, hmI] at hc1
        rcases hc1 with h | ⟨q', h, hno⟩
        · exact hn _ b hc2 h
        · exact hno ⟨k, q, hq, hd _ _ b h hc2⟩
      · rw [hmO j g1 e1] at hc1
        exact e1 (hs.dist j id b g2 hlid hc1 (hSfS _ b hc2))
    rcases hlive j1 g1 with ⟨a1, a2⟩ | ⟨k1, q1, rfl, hq1⟩ <;> rcases hlive j2 g2 with ⟨c1, c2⟩ | ⟨k2, q2, rfl, hq2⟩
    · have hX : ∀ j, j < N → (m' j).S b → (m j).S b := fun j hj h => by
        by_cases e1 : j = id
        · subst e1; rw [hmI] at h; exact h.elim (fun h => (hS b).2 (.inl h)) (fun ⟨q, h⟩ => hSfS q b h.1)
        · rwa [hmO j hj e1] at h
      exact hs.dist j1 j2 b a2 c2 (hX j1 a1 hb1) (hX j2 c1 hb2)
    · exact (key j1 k2 q2 a1 a2 hq2 hb1 hb2).elim
    · exact (key j2 k1 q1 c1 c2 hq1 hb2 hb1).elim
    · rw [hmN, hpjk _ _ hq1] at hb1
      rw [hmN, hpjk _ _ hq2] at hb2
      have h3 := hd _ _ b hb1 hb2
      have h4 : q1 = q2 := by omega
      subst h4
      rw [takePos_inj p.cells 0 k1 k2 q1 hq1 hq2]
  · intro hG j q hq
    change rows'[j]? = some q at hq
    simp only [rows'] at hq
    rw [List.getElem?_append] at hq
    split at hq
    · rename_i hlt
      rw [List.length_set] at hlt
      rw [List.getElem?_set] at hq
      split at hq
      · rename_i e0
        subst e0
        cases hq
        rw [hmI]
        refine .tree ⟨(m id).v, S'⟩ R e nl none (xs.set i (takeP p)) vals Sf' (by simpa using hown) h1 h2 (fun k y hy => ?_) (fun k y j c u hy hc hu => .inl ?_) (fun q q' b h3 h4 => hd q q' b h3.1 h4.1) (fun q b h3 => hn q b h3.1) (fun q b hq h3 => hz q b (by simpa using hq) h3.1) (fun b => Iff.rfl) (fun _ _ h => by cases h)
        · rw [List.getElem?_set] at hy
          split at hy
          · cases hy; exact takeP_fits hf
          · exact hw k y hy
        · rw [List.getElem?_set] at hy
          split at hy
          · rename_i e1
            subst e1
            cases hy
            rw [takeP_cells hf] at hc
            simp only [List.getElem?_map, Option.map_eq_some_iff] at hc
            obtain ⟨c', hc', rfl⟩ := hc
            have hT := hr i p j c' u hget hc' hu
            by_cases hsl : ∃ k : Nat, ps[k]? = some j
            · obtain ⟨k, hk⟩ := hsl
              obtain ⟨nl', e', ys, g2, _⟩ := hpos k j hk
              rw [hc'] at g2
              cases g2
              exact .gone u _ hT.oneCell (fun b hb => hb.2 ⟨k, j, hk, rfl⟩)
            · have hcc : takePV c' = c' := by
                have hl9 := takeSV_len p.cells 0
                have hj9 : j < (takeSV 0 p.cells).length := by rw [hl9]; exact (List.getElem?_eq_some_iff.1 hc').1
                rcases takeSV_get p.cells 0 0 j c' _ hc' (List.getElem?_eq_getElem hj9) with h3 | ⟨k, h3, _⟩
                · exact h3.2
                · exact (hsl ⟨k, by have h3' : ps[k]? = some (0 + j) := h3; rw [Nat.zero_add] at h3'; exact h3'⟩).elim
              rw [hcc]
              have hSe : Sf' (i * e + j) = Sf (i * e + j) := by
                funext b
                exact propext ⟨fun h => h.1, fun h => ⟨h, fun ⟨k, j', h3, h4⟩ => hsl ⟨k, by rw [h3]; congr 1; omega⟩⟩⟩
              rw [hSe]
              exact hT
          · rename_i e1
            have hT := hr k y j c u hy hc hu
            have hjj : j < e := by rw [← (hw k y hy).1]; exact (List.getElem?_eq_some_iff.1 hc).1
            have hSe : Sf' (k * e + j) = Sf (k * e + j) := by
              funext b
              refine propext ⟨fun h => h.1, fun h => ⟨h, fun ⟨k', j', h3, h4⟩ => ?_⟩⟩
              obtain ⟨nl', e', ys, g2, _⟩ := hpos k' j' h3
              have hj' : j' < e := by rw [← hf.1]; exact (List.getElem?_eq_some_iff.1 g2).1
              have e2 : (k * e + j) / e = (i * e + j') / e := by rw [h4]
              rw [Nat.mul_comm k e, Nat.mul_comm i e, Nat.mul_add_div (by omega), Nat.mul_add_div (by omega), Nat.div_eq_of_lt hjj, Nat.div_eq_of_lt hj'] at e2
              omega
            rw [hSe]
            exact hT
      · rename_i e0
        rw [hmO j hlt (Ne.symm e0)]
        exact (hs.rows j q hq).monoV hG (by rw [hlen']; omega) hmv (fun _ _ _ => rfl)
    · rename_i hge
      simp only [List.length_set] at hge hq
      obtain ⟨k, rfl⟩ : ∃ k, j = N + k := ⟨j - N, by have : N ≤ j := by omega
                                                     omega⟩
      have hk0 : N + k - s.rows.length = k := Nat.add_sub_cancel_left ..
      rw [hk0] at hq
      obtain ⟨q', nl', e', ys, g1, g2, g3⟩ := takeRows_get Rf p.cells 0 0 k q hq
      have g1' : ps[k]? = some q' := by have : ps[k]? = some (0 + q') := g1; rw [Nat.zero_add] at this; exact this
      subst g3
      rw [hmN, hpjk _ _ g1', Nat.zero_add]
      have hx := hRf k q' nl' e' ys g1' g2
      generalize (⟨vals.getD (i * e + q') undef, Sf (i * e + q')⟩ : MV) = mv at hx ⊢
      cases hx with
      | tree _ _ _ _ _ _ vals2 Sf2 hown2 k1 k2 kw kr kd kn kz kS kk =>
        exact .tree _ _ _ _ _ _ vals2 Sf2 hown2 k1 k2 kw kr kd kn kz kS kk
  · intro fr b ⟨g1, g2, g3⟩
    refine ⟨g1, fun ⟨j, hj, hb⟩ => ?_, g3⟩
    obtain ⟨k, h4, h5, _⟩ := hsrc j b hj hb
    exact g2 ⟨k, h4, h5⟩
  · intro k j hk
    refine ⟨?_, ?_⟩
    · rw [show s.rows.length + k = N + k from rfl, hmN, hpjk k j hk]
    · show N + k < rows'.length
      rw [hlen', hrl]
      have h9 : k < ps.length := (List.getElem?_eq_some_iff.1 hk).1
      omega

/-- A struct of such a row is read: its slices become rows. -/
theorem vo_load_take {x : Operand} {T id R e i : Nat} {nl : Option Bool} {xs : List PV} {p : PV} {D : TypeDesc} {inf : TypeInfo} (ht : Nat.blt t s.n = true) (hx : getO s.env x = .ptr id e i 0) (hrow : s.rows[id]? = some (.tree R e nl none xs)) (hnb : C.nb ≤ id)
    (hT : P.underlying T = some D) (hD : D.isRow = true) (hinf : P.info? T = some inf) (hsz : inf.size = e) (hget : xs[i]? = some p) (hok : p.cells.all okTake = true)
    (next : ∀ Rf : Nat → TypeId, VO P C ops rest Q ⟨s.n, (t, .ag (takeSV s.rows.length p.cells)) :: s.env, s.rows.set id (.tree R e nl none (xs.set i (takeP p))) ++ takeRows Rf 0 p.cells⟩) :
    VO P C ops (⟨some t, .load T x, ty, pos, af, none⟩ :: rest) Q s := by
  refine vo_valueX (s1 := fun Rf => ⟨s.n, s.env, s.rows.set id (.tree R e nl none (xs.set i (takeP p))) ++ takeRows Rf 0 p.cells⟩) (sv := .ag (takeSV s.rows.length p.cells)) (fun _ => ht) (fun m a w hs => ?_) next
  obtain ⟨b, vals, Sf, hv, hb, hown, hf, hcell, hr, hd, hn, hz, hS, h1, h2, hw, _⟩ := hs.elemT hx hrow hget
  obtain ⟨Rf, m', hs', hG, hmv, hnew⟩ := hs.takeRow hnb hrow hget hok hown hr hd hn hz hS h1 h2 hw
  have hi : i < xs.length := (List.getElem?_eq_some_iff.1 hget).1
  have hvl : vals.length = xs.length * e := hown.1
  have hle : i * e + e ≤ xs.length * e := by
    have := Nat.mul_le_mul_right e (show i + 1 ≤ xs.length by omega)
    rw [Nat.add_mul] at this
    omega
  have hgl : ((vals.drop (i * e)).take e).length = e := by simp; omega
  refine ⟨Rf, .agg ((vals.drop (i * e)).take e).toArray, w, m', ?_, hs', ?_⟩
  · have := run_loadAt_mid (P := P) w b (i * e) T ((vals.drop (i * e)).take e) D (fun j v hj => ?_) hT hD (by rw [hinf]; simp [hsz]; omega)
    · simp [execOp, hv, this]
    · rw [List.getElem?_take] at hj
      split at hj
      · rw [List.getElem?_drop] at hj
        rw [hcell _ (by omega)]
        exact hj
      · cases hj
  · refine .ag _ _ (by rw [takeSV_len, hf.1]; simp; omega) (fun j c u hc hu => ?_) (fun j u hu => ?_)
    · have hj : j < p.cells.length := by rw [← takeSV_len p.cells s.rows.length]; exact (List.getElem?_eq_some_iff.1 hc).1
      have hu1 : ((vals.drop (i * e)).take e)[j]? = some u := by simpa using hu
      rw [List.getElem?_take, if_pos (by rw [← hf.1]; exact hj), List.getElem?_drop] at hu1
      have hcj := List.getElem?_eq_getElem hj
      have hT := hr i p j _ u hget hcj hu1
      rcases takeSV_get p.cells 0 s.rows.length j _ c hcj hc with ⟨rfl, hcc⟩ | ⟨k, hk, rfl⟩
      · refine .pv _ _ _ ?_
        have hsc : okTake p.cells[j] = true := by rw [List.all_eq_true] at hok; exact hok _ (List.getElem_mem hj)
        have hsc2 : p.cells[j].scal = true := by
          generalize p.cells[j] = c at hcc hsc
          cases c <;> simp_all [okTake, takePV, PV.scal]
        exact (hT.rp (G := fun _ => True) (fun _ _ => trivial)).scal_any hsc2
      · rw [Nat.zero_add] at hk
        obtain ⟨g1, g2⟩ := hnew k j hk
        have e1 : vals.getD (i * e + j) undef = u := by rw [List.getD_eq_getElem?_getD, hu1]; rfl
        rw [e1] at g1
        rw [← g1]
        exact .ref _ g2
    · have hu1 : ((vals.drop (i * e)).take e)[j]? = some u := by simpa using hu
      have hj : j < e := by rw [← hgl]; exact (List.getElem?_eq_some_iff.1 hu1).1
      rw [List.getElem?_take, if_pos hj, List.getElem?_drop] at hu1
      have hcj := List.getElem?_eq_getElem (show j < p.cells.length by rw [hf.1]; exact hj)
      exact (hr i p j _ u hget hcj hu1).oneCell

/-- A slice of such a row is read: it becomes a row. -/
theorem vo_load_take1 {x : Operand} {T id R i e' : Nat} {nl nl' : Option Bool} {xs ys : List PV} {D : TypeDesc} (ht : Nat.blt t s.n = true) (hx : getO s.env x = .ptr id 1 i 0) (hrow : s.rows[id]? = some (.tree R 1 nl none xs)) (hnb : C.nb ≤ id)
    (hT : P.underlying T = some D) (hD : (match D with | .struct _ | .array _ _ => true | _ => false) = false) (hget : xs[i]? = some (.sl nl' e' ys))
    (next : ∀ Rf : TypeId, VO P C ops rest Q ⟨s.n, (t, .ref s.rows.length) :: s.env, s.rows.set id (.tree R 1 nl none (xs.set i .gone)) ++ [.tree Rf e' nl' none ys]⟩) :
    VO P C ops (⟨some t, .load T x, ty, pos, af, none⟩ :: rest) Q s := by
  refine vo_valueX (s1 := fun Rf => ⟨s.n, s.env, s.rows.set id (.tree R 1 nl none (xs.set i .gone)) ++ [.tree Rf e' nl' none ys]⟩) (sv := .ref s.rows.length) (fun _ => ht) (fun m a w hs => ?_) next
  obtain ⟨b, vals, Sf, hv, hb, hown, hf, hcell, hr, hd, hn, hz, hS, h1, h2, hw, _⟩ := hs.elemT hx hrow hget
  obtain ⟨Rf, m', hs', hG, hmv, hnew⟩ := hs.takeRow hnb hrow hget rfl hown hr hd hn hz hS h1 h2 hw
  have hi : i < xs.length := (List.getElem?_eq_some_iff.1 hget).1
  have hlt : i * 1 + 0 < xs.length * 1 := by omega
  have hvl : vals.length = xs.length * 1 := hown.1
  have hu : vals[i * 1 + 0]? = some (vals.getD (i * 1 + 0) undef) := by rw [List.getD_eq_getElem?_getD, List.getElem?_eq_getElem (by omega)]; rfl
  have hcl := hcell _ hlt
  rw [hu] at hcl
  refine ⟨Rf 0, vals.getD (i * 1 + 0) undef, w, m', ?_, hs', ?_⟩
  · have hagg := isAgg_false hT hD w
    simp only [Nat.mul_one, Nat.add_zero] at hcl hv
    simp [execOp, Instr.loadAt, hv, Instr.sureAddr, loadVar, hagg, load, Sem.run, hcl]
  · obtain ⟨g1, g2⟩ := hnew 0 0 rfl
    rw [Nat.add_zero] at g1 g2
    show RS _ _ _ _ (.ref s.rows.length) _
    rw [← g1]
    exact .ref _ g2
end
end Go.Vl

/- An element's slices are put back into a row whose slices are its own; literals of such elements, and 'append'. -/
namespace Go.Vl
set_option linter.unusedVariables false
set_option linter.unusedSimpArgs false
open Go.RowKit

def deadAll (ks : List Nat) (rows : List Row) : List Row := ks.foldl (fun r k => r.set k .dead) rows

theorem deadAll_len : ∀ (ks : List Nat) (rows : List Row), (deadAll ks rows).length = rows.length
  | [], rows => rfl
  | k :: ks, rows => by
    show (deadAll ks (rows.set k .dead)).length = _
    rw [deadAll_len ks]; simp

theorem deadAll_get : ∀ (ks : List Nat) (rows : List Row) (j : Nat) (q : Row), (deadAll ks rows)[j]? = some q → (j ∈ ks ∧ q = .dead) ∨ (j ∉ ks ∧ rows[j]? = some q)
  | [], rows, j, q, h => .inr ⟨by simp, h⟩
  | k :: ks, rows, j, q, h => by
    rcases deadAll_get ks (rows.set k .dead) j q h with ⟨h1, h2⟩ | ⟨h1, h2⟩
    · exact .inl ⟨List.mem_cons_of_mem _ h1, h2⟩
    · rw [List.getElem?_set] at h2
      split at h2
      · rename_i e
        subst e
        split at h2
        · cases h2; exact .inl ⟨by simp, rfl⟩
        · cases h2
      · rename_i e
        exact .inr ⟨by simp only [List.mem_cons, not_or]; exact ⟨Ne.symm e, h1⟩, h2⟩

def refsOf : List SV → List Nat
  | [] => []
  | .ref k :: r => k :: refsOf r
  | _ :: r => refsOf r

theorem mem_refsOf : ∀ {ys : List SV} {j k : Nat}, ys[j]? = some (.ref k) → k ∈ refsOf ys
  | [], j, k, h => by simp at h
  | y :: ys, 0, k, h => by simp at h; subst h; simp [refsOf]
  | y :: ys, j + 1, k, h => by
    simp only [List.getElem?_cons_succ] at h
    have := mem_refsOf h
    cases y <;> simp [refsOf, this]

theorem refsOf_inj : ∀ {ys : List SV} {j j' k : Nat}, (refsOf ys).Nodup → ys[j]? = some (.ref k) → ys[j']? = some (.ref k) → j = j'
  | [], j, j', k, _, h, _ => by simp at h
  | y :: ys, 0, 0, k, _, _, _ => rfl
  | y :: ys, 0, j' + 1, k, hn, h, h' => by
    simp at h h'; subst h
    simp only [refsOf, List.nodup_cons] at hn
    exact (hn.1 (mem_refsOf h')).elim
  | y :: ys, j + 1, 0, k, hn, h, h' => by
    simp at h h'; subst h'
    simp only [refsOf, List.nodup_cons] at hn
    exact (hn.1 (mem_refsOf h)).elim
  | y :: ys, j + 1, j' + 1, k, hn, h, h' => by
    simp only [List.getElem?_cons_succ] at h h'
    have : (refsOf ys).Nodup := by cases y <;> simp_all [refsOf, List.nodup_cons]
    rw [refsOf_inj this h h']

/-- What goes into a cell. -/
def pvT (rows : List Row) : SV → Option PV
  | .pv _ c => bif c.scal then some c else none
  | .ref k => match rows[k]? with
    | some (.tree _ e nl none xs) => some (.sl nl e xs)
    | _ => none
  | _ => none

def pvTs (rows : List Row) : List SV → Option (List PV)
  | [] => some []
  | y :: ys => match pvT rows y, pvTs rows ys with
    | some p, some ps => some (p :: ps)
    | _, _ => none

theorem pvTs_get {rows : List Row} : ∀ {ys : List SV} {ps : List PV}, pvTs rows ys = some ps → ys.length = ps.length ∧ ∀ (j : Nat) (y : SV) (p : PV), ys[j]? = some y → ps[j]? = some p → pvT rows y = some p
  | [], ps, h => by simp [pvTs] at h; subst h; exact ⟨rfl, fun j y p h => by simp at h⟩
  | y :: ys, ps, h => by
    simp only [pvTs] at h
    split at h
    · rename_i p ps' h1 h2
      cases h
      obtain ⟨g1, g2⟩ := pvTs_get h2
      refine ⟨by simp [g1], fun j y' p' h3 h4 => ?_⟩
      cases j with
      | zero => simp at h3 h4; subst h3; subst h4; exact h1
      | succ j => simp only [List.getElem?_cons_succ] at h3 h4; exact g2 j y' p' h3 h4
    · cases h

/-- The blocks of a cell's own. -/
def sOf (m : Nat → MV) (ys : List SV) (j b : Nat) : Prop := ∃ k, ys[j]? = some (.ref k) ∧ (m k).S b

section
variable {P : Program} {C : Ctx} {Q : Go.Exit → St → Prop} {s : St} {ops : Array Oper} {rest : List Oper} {t : Nat} {ty : TypeId} {pos : String} {af : Array Edge}

theorem SimM.putT {m : Nat → MV} {a : Act} {w : World} (hs : SimM C s m a w) {x : Operand} {ys : List SV} {ps : List PV} (hy : Vl.cellsG (getO s.env x) = some ys) (hok : okG s.rows (getO s.env x) = true) (hps : pvTs s.rows ys = some ps) :
    (∀ (j : Nat) (c : PV) (u : Value), ps[j]? = some c → (a.eval x).cells[j]? = some u → TP w c u (sOf m ys j)) ∧ (∀ (j k : Nat), ys[j]? = some (.ref k) → liveAt s.rows k) := by
  obtain ⟨g1, g2, g3⟩ := hs.cellsG hy hok
  obtain ⟨q1, q2⟩ := pvTs_get hps
  refine ⟨fun j c u hc hu => ?_, fun j k hk => ?_⟩
  · have hj : j < ys.length := by rw [q1]; exact (List.getElem?_eq_some_iff.1 hc).1
    have hyj := List.getElem?_eq_getElem hj
    have hp := q2 j _ c hyj hc
    have hr := g2 j _ u hyj hu
    have h1 := g3 j u hu
    generalize ys[j] = y at *
    cases y with
    | pv f p =>
      simp only [pvT] at hp
      cases hsc : p.scal with
      | false => rw [hsc] at hp; cases hp
      | true =>
        rw [hsc] at hp
        cases hp
        exact .scal _ _ _ hsc (hr.pv_inv.scal_any hsc) (fun b ⟨k, h, _⟩ => by rw [hyj] at h; cases h)
    | ref k =>
      simp only [pvT] at hp
      split at hp
      · rename_i R e nl xs hrow
        cases hp
        have hT := TP.of_tree (hs.rows k _ hrow)
        have hSe : sOf m ys j = (m k).S := by
          funext b
          refine propext ⟨fun ⟨k', h, hb⟩ => ?_, fun hb => ⟨k, hyj, hb⟩⟩
          rw [hyj] at h; cases h; exact hb
        rw [hSe]
        cases hr with
        | ref _ _ => exact hT
      · cases hp
    | _ => cases hp
  · have hj : j < ps.length := by rw [← q1]; exact (List.getElem?_eq_some_iff.1 hk).1
    have hp := q2 j _ _ hk (List.getElem?_eq_getElem hj)
    simp only [pvT] at hp
    split at hp
    · rename_i R e nl xs hrow; exact ⟨_, hrow, rfl⟩
    · cases hp

/-- An element goes into a place of a row whose slices are its own: its slices' rows go with it. -/
theorem vo_put {x y : Operand} {T id R e i k0 : Nat} {nl : Option Bool} {xs : List PV} {ys : List SV} {ps : List PV} {p : PV} {inf : TypeInfo} (hx : getO s.env x = .ptr id e i 0) (hrow : s.rows[id]? = some (.tree R e nl none xs))
    (hy : cellsG (getO s.env y) = some ys) (hok : okG s.rows (getO s.env y) = true) (hps : pvTs s.rows ys = some ps) (hpc : p.cells = ps) (hfp : fitsB e p = true)
    (hC : C.nb = k0) (hk : (id :: refsOf ys).all (fun k => Nat.ble k0 k) = true) (hnd : (id :: refsOf ys).Nodup) (hinf : P.info? T = some inf) (hsz : inf.size = e) (hi : i < xs.length)
    (next : VO P C ops rest Q ⟨s.n, s.env, (deadAll (refsOf ys) s.rows).set id (.tree R e nl none (xs.set i p))⟩) :
    VO P C ops (⟨none, .store T x y, ty, pos, af, none⟩ :: rest) Q s := by
  refine vo_unit (s1 := ⟨s.n, s.env, (deadAll (refsOf ys) s.rows).set id (.tree R e nl none (xs.set i p))⟩) (fun m a w hs => ?_) next
  obtain ⟨b, vals, Sf, hv, hb, hown, hf, hcell, hr, hd, hn, hz, hS, h1, h2, hw, cap, cur, hmv, hheap, hcap, hmx, hcs, htk⟩ := hs.elemT hx hrow (List.getElem?_eq_getElem hi)
  obtain ⟨hvl, _, hone1⟩ := hs.cellsG hy hok
  obtain ⟨hT, hlv⟩ := hs.putT hy hok hps
  obtain ⟨hyl, _⟩ := pvTs_get hps
  have hfp := fits_of hfp
  have hple : ps.length = e := by rw [← hpc]; exact hfp.1
  have hyse : ys.length = e := by omega
  have hid : id < s.rows.length := (List.getElem?_eq_some_iff.1 hrow).1
  have hlid : liveAt s.rows id := ⟨_, hrow, rfl⟩
  rw [List.all_eq_true] at hk
  have hnbk : ∀ k, k ∈ id :: refsOf ys → C.nb ≤ k := fun k h => by rw [hC]; exact Nat.le_of_ble_eq_true (hk k h)
  have hnb : C.nb ≤ id := hnbk id (by simp)
  rw [List.nodup_cons] at hnd
  obtain ⟨hidk, hnd⟩ := hnd
  have hle : i * e + e ≤ xs.length * e := by
    have := Nat.mul_le_mul_right e (show i + 1 ≤ xs.length by omega)
    rw [Nat.add_mul] at this
    omega
  have hle2 : xs.length * e ≤ cap * e := Nat.mul_le_mul_right e hcap
  have hvals : vals.length = xs.length * e := hown.1
  have hone : ∀ u ∈ (a.eval y).cells.toList, u.oneCell' = true := by
    intro u hu
    obtain ⟨j, hj⟩ := List.getElem?_of_mem hu
    exact hone1 j u (by simpa using hj)
  have hysv : (a.eval y).cells.size = e := by omega
  generalize hvs : (a.eval y).cells = vs at *
  have hrun := run_storeCells_at P b (i * e) R vs.toList 0 cur w hheap (by simp; omega) hone
  simp only [Nat.add_zero, Array.length_toList, hysv] at hrun
  let cur' := (cur.toList.take (i * e) ++ vs.toList ++ cur.toList.drop (i * e + e)).toArray
  let vals' := vals.take (i * e) ++ vs.toList ++ vals.drop (i * e + e)
  have hvl' : vals'.length = xs.length * e := by
    simp only [vals', List.length_append, List.length_take, List.length_drop, Array.length_toList, hysv, hvals]
    omega
  have hvget : ∀ j, vals'[j]? = if j < i * e then vals[j]? else if j < i * e + e then vs[j - i * e]? else vals[j]? := by
    intro j
    simp only [vals']
    rw [List.getElem?_append, List.getElem?_append]
    simp only [List.length_append, List.length_take, Array.length_toList, hysv]
    have e1 : min (i * e) vals.length = i * e := by omega
    rw [e1]
    split
    · split
      · rw [List.getElem?_take, if_pos (by assumption)]
      · simp
    · rw [if_neg (by omega), List.getElem?_drop, show i * e + e + (j - (i * e + e)) = j by omega]
  have hsep : ∀ k j, k ≠ i → j < e → k * e + j < i * e ∨ i * e + e ≤ k * e + j := by
    intro k j h3 h4
    rcases Nat.lt_or_ge k i with h5 | h5
    · left
      have := Nat.mul_le_mul_right e (show k + 1 ≤ i by omega)
      rw [Nat.add_mul] at this
      omega
    · right
      have := Nat.mul_le_mul_right e (show i + 1 ≤ k by omega)
      rw [Nat.add_mul] at this
      omega
  let Sf' : Nat → Nat → Prop := fun q b' => if i * e ≤ q ∧ q < i * e + e then sOf m ys (q - i * e) b' else Sf q b'
  let S' : Nat → Prop := fun b' => blk (m id).v = some b' ∨ ∃ q, Sf' q b'
  let m' : Nat → MV := updM m id ⟨(m id).v, S'⟩
  let rows' := (deadAll (refsOf ys) s.rows).set id (.tree R e nl none (xs.set i p))
  have hlen' : rows'.length = s.rows.length := by simp [rows', deadAll_len]
  have hmI : m' id = ⟨(m id).v, S'⟩ := updM_same ..
  have hmO : ∀ j, j ≠ id → m' j = m j := fun j h => updM_ne _ _ h
  have hmvv : ∀ j, (m' j).v = (m j).v := fun j => by
    by_cases e : j = id
    · subst e; rw [hmI]
    · rw [hmO j e]
  have hrk : ∀ j b', sOf m ys j b' → ∃ k, ys[j]? = some (.ref k) ∧ k ∈ refsOf ys ∧ liveAt s.rows k ∧ (m k).S b' := fun j b' ⟨k, h3, h4⟩ => ⟨k, h3, mem_refsOf h3, hlv j k h3, h4⟩
  have hSfS : ∀ q b', Sf q b' → (m id).S b' := fun q b' h => (hS b').2 (.inr ⟨q, h⟩)
  have hblkS : ∀ b', blk (m id).v = some b' → (m id).S b' := fun b' h => (hS b').2 (.inl h)
  have hno : ∀ k b', k ∈ refsOf ys → liveAt s.rows k → (m k).S b' → (m id).S b' → False := fun k b' h3 h4 h5 h6 => hidk ((hs.dist id k b' hlid h4 h6 h5) ▸ h3)
  have hlive : ∀ j, liveAt rows' j → j ∉ refsOf ys ∧ liveAt s.rows j := by
    intro j ⟨q, hq, hv⟩
    simp only [rows'] at hq
    rw [List.getElem?_set] at hq
    split at hq
    · rename_i e0; subst e0; exact ⟨hidk, hlid⟩
    · rcases deadAll_get _ _ _ _ hq with ⟨_, h4⟩ | ⟨h3, h4⟩
      · subst h4; cases hv
      · exact ⟨h3, q, h4, hv⟩
  have hsrc : ∀ j b', liveAt rows' j → (m' j).S b' → ∃ k, liveAt s.rows k ∧ (m k).S b' ∧ ((k = j) ∨ (j = id ∧ k ∈ refsOf ys)) := by
    intro j b' hl hb'
    obtain ⟨h3, h4⟩ := hlive j hl
    by_cases e0 : j = id
    · rw [e0, hmI] at hb'
      rcases hb' with h5 | ⟨q, h5⟩
      · exact ⟨id, hlid, hblkS b' h5, .inl e0.symm⟩
      · simp only [Sf'] at h5
        split at h5
        · obtain ⟨k, _, h6, h7, h8⟩ := hrk _ _ h5
          exact ⟨k, h7, h8, .inr ⟨e0, h6⟩⟩
        · exact ⟨id, hlid, hSfS _ b' h5, .inl e0.symm⟩
    · rw [hmO j e0] at hb'
      exact ⟨j, h4, hb', .inl rfl⟩
  refine ⟨w.setRow b cur', m', ?_, ?_⟩
  · simp [execOp, Instr.storeAt, hv, Instr.sureAddr, storeVar, sizeOf, typeInfo, hinf, hsz, hvs, hysv, hrun, cur']
  · refine hs.remap (grown_setRow w b cur') (fun b' e0 => by cases e0; exact ⟨id, hlid, hblkS b hb⟩) rows' m' (by rw [hlen']; exact Nat.le_refl _) (fun j _ => hmvv j) (fun j hj => hmO j (by omega)) (fun j b' hl hb' => ?_) ?_ ?_
    · obtain ⟨k, h3, h4, h5⟩ := hsrc j b' hl hb'
      exact .inl ⟨k, h3, h4, fun h6 => by rcases h5 with rfl | ⟨_, h5⟩; exact h6; exact hnbk k (List.mem_cons_of_mem _ h5)⟩
    · intro j1 j2 b' g1 g2 c1 c2
      obtain ⟨k1, a1, a2, a3⟩ := hsrc j1 b' g1 c1
      obtain ⟨k2, d1, d2, d3⟩ := hsrc j2 b' g2 c2
      have e0 := hs.dist k1 k2 b' a1 d1 a2 d2
      rcases a3 with rfl | ⟨rfl, a3⟩ <;> rcases d3 with rfl | ⟨rfl, d3⟩
      · exact e0
      · rw [← e0] at d3; exact ((hlive k1 g1).1 d3).elim
      · rw [e0] at a3; exact ((hlive k2 g2).1 a3).elim
      · rfl
    · intro hG j q hq
      change rows'[j]? = some q at hq
      simp only [rows'] at hq
      rw [List.getElem?_set] at hq
      have hheap' := setRow_heap w b cur cur' R _ hheap
      have hgs := grown_setRow w b cur'
      split at hq
      · rename_i e0
        have hq : Row.tree R e nl none (xs.set i p) = q := by
          split at hq
          · cases hq; rfl
          · cases hq
        subst hq
        rw [← e0, hmI]
        refine .tree ⟨(m id).v, S'⟩ R e nl none (xs.set i p) vals' Sf' ?_ h1 h2 (fun k y' hy' => ?_) (fun k y' jj c u hy' hc hu => .inl ?_) ?_ ?_ ?_ (fun _ => Iff.rfl) (fun _ _ h => by cases h)
        · refine ⟨by rw [hvl']; simp, .inr ⟨b, cap, cur', by rw [List.length_set]; exact hmv, Nat.zero_le _, hheap', by rw [List.length_set]; exact hcap, hmx, by simp [cur']; omega, ?_⟩⟩
          rw [List.length_set]
          refine List.ext_getElem? (fun j => ?_)
          rw [hvget, List.getElem?_take]
          simp only [cur']
          rw [List.getElem?_append, List.getElem?_append]
          simp only [List.length_append, List.length_take, Array.length_toList, hysv]
          have e1 : min (i * e) cur.size = i * e := by omega
          rw [e1, ← htk]
          by_cases hj : j < xs.length * e
          · rw [if_pos hj]
            split
            · split
              · rw [List.getElem?_take, if_pos (by assumption), List.getElem?_take, if_pos hj]
              · simp
            · rw [if_neg (by omega), List.getElem?_drop, show i * e + e + (j - (i * e + e)) = j by omega, List.getElem?_take, if_pos hj]
          · rw [if_neg hj, if_neg (by omega), if_neg (by omega), List.getElem?_take, if_neg hj]
        · rw [List.getElem?_set] at hy'
          split at hy'
          · cases hy'; exact hfp
          · exact hw k y' hy'
        · rw [List.getElem?_set] at hy'
          split at hy'
          · rename_i e1
            subst e1
            cases hy'
            rw [hpc] at hc
            have hjj : jj < e := by rw [← hple]; exact (List.getElem?_eq_some_iff.1 hc).1
            rw [hvget, if_neg (by omega), if_pos (by omega), Nat.add_sub_cancel_left] at hu
            have hSe : Sf' (i * e + jj) = sOf m ys jj := by
              funext b'
              show (if _ then _ else _) = _
              rw [if_pos ⟨by omega, by omega⟩, Nat.add_sub_cancel_left]
            rw [hSe]
            refine (hT jj c u hc hu).mono fun b' hb' => ?_
            obtain ⟨k, _, h6, h7, h8⟩ := hrk _ _ hb'
            exact hgs.block b' (hs.lt h7 h8) (fun e2 => by cases e2; exact hno k b h6 h7 h8 (hblkS b hb))
          · rename_i e1
            have hjj : jj < e := by rw [← (hw k y' hy').1]; exact (List.getElem?_eq_some_iff.1 hc).1
            have hs3 := hsep k jj (Ne.symm e1) hjj
            have hu' : vals[k * e + jj]? = some u := by
              rw [hvget] at hu
              rcases hs3 with h3 | h3
              · rwa [if_pos h3] at hu
              · rwa [if_neg (by omega), if_neg (by omega)] at hu
            have hSe : Sf' (k * e + jj) = Sf (k * e + jj) := by
              funext b'
              show (if _ then _ else _) = _
              rw [if_neg (by omega)]
            rw [hSe]
            exact (hr k y' jj c u hy' hc hu').mono fun b' hb' => hgs.block b' (hs.lt hlid (hSfS _ b' hb')) (fun e2 => by cases e2; exact hn _ b hb' hb)
        · intro q q' b' h3 h4
          simp only [Sf'] at h3 h4
          split at h3 <;> split at h4
          · obtain ⟨k, g1, g2, g3, g4⟩ := hrk _ _ h3
            obtain ⟨k', g1', g2', g3', g4'⟩ := hrk _ _ h4
            have e2 := hs.dist k k' b' g3 g3' g4 g4'
            subst e2
            have := refsOf_inj hnd g1 g1'
            omega
          · obtain ⟨k, g1, g2, g3, g4⟩ := hrk _ _ h3
            exact (hno k b' g2 g3 g4 (hSfS _ b' h4)).elim
          · obtain ⟨k, g1, g2, g3, g4⟩ := hrk _ _ h4
            exact (hno k b' g2 g3 g4 (hSfS _ b' h3)).elim
          · exact hd q q' b' h3 h4
        · intro q b' h3 h4
          simp only [Sf'] at h3
          split at h3
          · obtain ⟨k, g1, g2, g3, g4⟩ := hrk _ _ h3
            exact hno k b' g2 g3 g4 (hblkS b' h4)
          · exact hn q b' h3 h4
        · intro q b' h3 h4
          rw [List.length_set] at h3
          simp only [Sf'] at h4
          split at h4
          · omega
          · exact hz q b' h3 h4
      · rename_i e0
        rcases deadAll_get _ _ _ _ hq with ⟨_, h4⟩ | ⟨h3, h4⟩
        · subst h4; exact .dead _
        · rw [hmO j (Ne.symm e0)]
          exact (hs.rows j q h4).monoV hG (by rw [hlen']; exact Nat.le_refl _) (fun j _ => hmvv j) (fun hl b' hb' => hgs.block b' (hs.lt ⟨q, h4, hl⟩ hb') (fun e2 => by cases e2; exact e0 (hs.dist id j b hlid ⟨q, h4, hl⟩ (hblkS b hb) hb')))
end
end Go.Vl

/- Literals of elements whose slices are their own; 'append' of them; their plain cells. -/
namespace Go.Vl
set_option linter.unusedVariables false
set_option linter.unusedSimpArgs false
open Go.RowKit

section
variable {P : Program} {C : Ctx} {Q : Go.Exit → St → Prop} {s : St} {ops : Array Oper} {rest : List Oper} {t : Nat} {ty : TypeId} {pos : String} {af : Array Edge}

/-- A slice of one element, whose slices' rows go with it. -/
theorem vo_build_treeG {T el e by' k0 : Nat} {d p : PV} {y : Operand} {ys : List SV} {ps : List PV} (hI : ElInfo P T el e by' d) (ht : Nat.blt t s.n = true)
    (hy : cellsG (getO s.env y) = some ys) (hok : okG s.rows (getO s.env y) = true) (hps : pvTs s.rows ys = some ps) (hpc : p.cells = ps) (hfp : fitsB e p = true) (hsm : Nat.ble e 1000 = true)
    (hC : C.nb = k0) (hk : (refsOf ys).all (fun k => Nat.ble k0 k) = true) (hnd : (refsOf ys).Nodup)
    (next : VO P C ops rest Q ⟨s.n, (t, .ref s.rows.length) :: s.env, deadAll (refsOf ys) s.rows ++ [.tree el e (some false) none [p]]⟩) :
    VO P C ops (⟨some t, .buildSlice T 1 #[(0, y)], ty, pos, af, none⟩ :: rest) Q s := by
  obtain ⟨hT, ⟨inf, z, hinf, hsz, hbytes, hz, hzs, hzr⟩, hdf, he⟩ := hI
  refine vo_value (s1 := ⟨s.n, s.env, deadAll (refsOf ys) s.rows ++ [Row.tree el e (some false) none [p]]⟩) (sv := .ref s.rows.length) ht (fun m a w hs => ?_) next
  obtain ⟨hvl, _, hone1⟩ := hs.cellsG hy hok
  obtain ⟨hTc, hlv⟩ := hs.putT hy hok hps
  obtain ⟨hyl, _⟩ := pvTs_get hps
  have hfp := fits_of hfp
  have hsm := Nat.le_of_ble_eq_true hsm
  have hple : ps.length = e := by rw [← hpc]; exact hfp.1
  have hysv : (a.eval y).cells.size = e := by omega
  rw [List.all_eq_true] at hk
  have hnbk : ∀ k, k ∈ refsOf ys → C.nb ≤ k := fun k h => by rw [hC]; exact Nat.le_of_ble_eq_true (hk k h)
  generalize hvs : (a.eval y).cells = vs at *
  let w1 := w.alloc (.cells vs el)
  have hrun : (execOp a.eval ⟨some t, .buildSlice T 1 #[(0, y)], ty, pos, af, none⟩).run P w = .ok (.value (.slice (some ⟨w.heap.size, 0, none⟩) 1 1)) w1 := by
    have hf := Great.fill_whole he [a.eval y] ((Array.range (1 * e)).map (z.cells[· % z.cells.size]!)) (by intro v hv; rw [List.mem_singleton.1 hv, hvs]; exact hysv) (by simp)
    have hpl : (#[(0, y)].map fun (i, x) => (i, a.eval x)).toList = ([a.eval y].zipIdx 0).map fun x => (x.2, x.1) := by simp
    have hvv : ([a.eval y].flatMap fun v => v.cells.toList).toArray = vs := by simp [hvs]
    have := run_buildSlice (P := P) w T el 1 (#[(0, y)].map fun (i, x) => (i, a.eval x)) vs inf z hT hinf hz (by rw [hsz]; omega) (by rw [hsz]; omega) (by rw [hsz, hpl, hf, hvv])
    simp only [execOp, Sem.run_bind, this, Result.andThen_ok]
    rfl
  have hheap : w1.heap[w.heap.size]? = some (.cells vs el (0, 0)) := heap_alloc_new w _
  have hgrow := World.grownBy_alloc w (.cells vs el) none
  have hown1 : w1.ownsRow 0 el e (.slice (some ⟨w.heap.size, 0, none⟩) 1 1) 1 vs.toList := ⟨by simp [hysv], .inr ⟨w.heap.size, 1, vs, rfl, Nat.zero_le _, hheap, Nat.le_refl _, by simp [maxLen], by simp [hysv], by rw [Nat.one_mul]; exact List.take_of_length_le (by simp [hysv])⟩⟩
  let N := s.rows.length
  let Sf' : Nat → Nat → Prop := fun q b' => sOf m ys q b'
  let S' : Nat → Prop := fun b' => b' = w.heap.size ∨ ∃ q, Sf' q b'
  let mv' : MV := ⟨.slice (some ⟨w.heap.size, 0, none⟩) 1 1, S'⟩
  let m' : Nat → MV := updM m N mv'
  let rows' := deadAll (refsOf ys) s.rows ++ [Row.tree el e (some false) none [p]]
  have hlen' : rows'.length = N + 1 := by simp [rows', deadAll_len, N]
  have hmI : m' N = mv' := updM_same ..
  have hmO : ∀ j, j ≠ N → m' j = m j := fun j h => updM_ne _ _ h
  have hrk : ∀ j b', sOf m ys j b' → ∃ k, ys[j]? = some (.ref k) ∧ k ∈ refsOf ys ∧ liveAt s.rows k ∧ (m k).S b' := fun j b' ⟨k, h3, h4⟩ => ⟨k, h3, mem_refsOf h3, hlv j k h3, h4⟩
  have hlive : ∀ j, liveAt rows' j → j = N ∨ (j < N ∧ j ∉ refsOf ys ∧ liveAt s.rows j) := by
    intro j ⟨q, hq, hv⟩
    simp only [rows'] at hq
    rw [List.getElem?_append] at hq
    split at hq
    · rename_i hlt
      rw [deadAll_len] at hlt
      rcases deadAll_get _ _ _ _ hq with ⟨_, h4⟩ | ⟨h3, h4⟩
      · subst h4; cases hv
      · exact .inr ⟨hlt, h3, q, h4, hv⟩
    · rename_i hge
      rw [deadAll_len] at hge hq
      rcases Nat.lt_or_ge (j - s.rows.length) 1 with h1 | h1
      · left; show j = s.rows.length; omega
      · rw [List.getElem?_eq_none (by simpa using h1)] at hq; cases hq
  have hsrc : ∀ j b', liveAt rows' j → (m' j).S b' → (j = N ∧ b' = w.heap.size) ∨ ∃ k, liveAt s.rows k ∧ (m k).S b' ∧ ((k = j ∧ j < N ∧ j ∉ refsOf ys) ∨ (j = N ∧ k ∈ refsOf ys)) := by
    intro j b' hl hb'
    rcases hlive j hl with rfl | ⟨h3, h4, h5⟩
    · rw [hmI] at hb'
      rcases hb' with h6 | ⟨q, h6⟩
      · exact .inl ⟨rfl, h6⟩
      · obtain ⟨k, _, h7, h8, h9⟩ := hrk _ _ h6
        exact .inr ⟨k, h8, h9, .inr ⟨rfl, h7⟩⟩
    · rw [hmO j (by omega)] at hb'
      exact .inr ⟨j, h5, hb', .inl ⟨rfl, h3, h4⟩⟩
  refine ⟨_, _, m', hrun, hs.remap hgrow (fun b h => by cases h) rows' m' (by rw [hlen']; exact Nat.le_succ _) (fun j hj => by rw [hmO j (by show j ≠ s.rows.length; omega)]) (fun j hj => hmO j (by have := hs.nbl; show j ≠ s.rows.length; omega)) (fun j b' hl hb' => ?_) ?_ ?_, ?_⟩
  · rcases hsrc j b' hl hb' with ⟨_, h4⟩ | ⟨k, h3, h4, h5⟩
    · right; omega
    · exact .inl ⟨k, h3, h4, fun h6 => by
        rcases h5 with ⟨rfl, _⟩ | ⟨_, h5⟩
        · exact h6
        · exact hnbk k h5⟩
  · intro j1 j2 b' g1 g2 c1 c2
    rcases hsrc j1 b' g1 c1 with ⟨rfl, a1⟩ | ⟨k1, a1, a2, a3⟩ <;> rcases hsrc j2 b' g2 c2 with ⟨rfl, d1⟩ | ⟨k2, d1, d2, d3⟩
    · rfl
    · have := hs.lt d1 d2; omega
    · have := hs.lt a1 a2; omega
    · have e0 := hs.dist k1 k2 b' a1 d1 a2 d2
      subst e0
      rcases a3 with ⟨a3, a4, a5⟩ | ⟨a3, a4⟩ <;> rcases d3 with ⟨d3, d4, d5⟩ | ⟨d3, d4⟩
      · omega
      · subst a3; exact (a5 d4).elim
      · subst d3; exact (d5 a4).elim
      · omega
  · intro hG j q hq
    change rows'[j]? = some q at hq
    simp only [rows'] at hq
    rw [List.getElem?_append] at hq
    split at hq
    · rename_i hlt
      rw [deadAll_len] at hlt
      rcases deadAll_get _ _ _ _ hq with ⟨_, h4⟩ | ⟨h3, h4⟩
      · subst h4; exact .dead _
      · rw [hmO j (by show j ≠ s.rows.length; omega)]
        exact (hs.rows j q h4).monoV hG (by rw [hlen']; exact Nat.le_succ _) (fun j hj => by rw [hmO j (by show j ≠ s.rows.length; omega)]) (fun hl b' hb' => hgrow.block b' (hs.lt ⟨q, h4, hl⟩ hb') (by simp))
    · rename_i hge
      rw [deadAll_len] at hge hq
      have hj : j = s.rows.length := by
        rcases Nat.lt_or_ge (j - s.rows.length) 1 with h1 | h1
        · omega
        · rw [List.getElem?_eq_none (by simpa using h1)] at hq; cases hq
      subst hj
      simp at hq
      subst hq
      show RowOK _ _ _ _ (m' N) _
      rw [hmI]
      refine .tree mv' el e (some false) none [p] vs.toList Sf' hown1 (fun h => by cases h) (fun _ h => by cases h) (fun k y' hy' => ?_) (fun k y' jj c u hy' hc hu => .inl ?_) ?_ ?_ ?_ (fun b' => ?_) (fun _ _ h => by cases h)
      · match k, hy' with
        | 0, hy' => cases hy'; exact hfp
      · match k, hy' with
        | 0, hy' =>
          cases hy'
          rw [hpc] at hc
          have hu' : vs[jj]? = some u := by simpa using hu
          rw [Nat.zero_mul, Nat.zero_add]
          refine (hTc jj c u hc hu').mono fun b' hb' => ?_
          obtain ⟨k, _, h6, h7, h8⟩ := hrk _ _ hb'
          exact hgrow.block b' (hs.lt h7 h8) (by simp)
      · intro q q' b' h3 h4
        obtain ⟨k, g1, g2, g3, g4⟩ := hrk _ _ h3
        obtain ⟨k', g1', g2', g3', g4'⟩ := hrk _ _ h4
        have e2 := hs.dist k k' b' g3 g3' g4 g4'
        subst e2
        exact refsOf_inj hnd g1 g1'
      · intro q b' h3 h4
        obtain ⟨k, g1, g2, g3, g4⟩ := hrk _ _ h3
        have := hs.lt g3 g4
        simp [mv', blk] at h4
        omega
      · intro q b' h3 h4
        obtain ⟨k, g1, g2, g3, g4⟩ := hrk _ _ h4
        have := (List.getElem?_eq_some_iff.1 g1).1
        simp at h3
        omega
      · constructor
        · rintro (h | h)
          · left; rw [h]; rfl
          · exact .inr h
        · rintro (h | h)
          · left; simp [mv', blk] at h; exact h.symm
          · exact .inr h
  · have := RS.ref (w := w1) (G := Gd C rows' m' w1) (m := m') (N := rows'.length) N (by rw [hlen']; omega)
    rw [hmI] at this
    exact this

/-- 'append' of such a slice to a row whose slices are its own. -/
theorem vo_append_treeG {x y : Operand} {id k T el e by' : Nat} {nl nly : Option Bool} {xs ys : List PV} {d : PV} (hI : ElInfo P T el e by' d) (ht : Nat.blt t s.n = true) (hnb : C.nb ≤ id) (hnk : C.nb ≤ k) (hne : Nat.beq id k = false)
    (hx : getO s.env x = .ref id) (hrow : s.rows[id]? = some (.tree el e nl none xs)) (hy : getO s.env y = .ref k) (hrk : s.rows[k]? = some (.tree el e nly none ys))
    (hby : (xs.length + ys.length) * by' ≤ 140737488355328) (hmx : xs.length + ys.length ≤ 9223372036854775807) (hys : 0 < ys.length)
    (next : VO P C ops rest Q ⟨s.n, (t, .ref id) :: killE id s.env, ((s.rows.map (Row.kill id)).set k .dead).set id (Row.tree el e (if nl = some false then some false else none) none (xs ++ ys))⟩) :
    VO P C ops (⟨some t, .call ⟨.builtin .append, #[x, y], #[T, T]⟩, ty, pos, af, none⟩ :: rest) Q s := by
  obtain ⟨hT, ⟨inf, z, hinf, hsz, hbytes, hz, hzs, hzr⟩, hdf, he⟩ := hI
  refine vo_value (s1 := ⟨s.n, killE id s.env, ((s.rows.map (Row.kill id)).set k .dead).set id (Row.tree el e (if nl = some false then some false else none) none (xs ++ ys))⟩) (sv := .ref id) ht (fun m a w hs => ?_) next
  have hne : id ≠ k := fun e => by subst e; rw [Nat.beq_refl] at hne; cases hne
  obtain ⟨hvx, hidl⟩ := hs.row hx
  obtain ⟨hvy, hkl⟩ := hs.row hy
  have hlid : liveAt s.rows id := ⟨_, hrow, rfl⟩
  have hlk : liveAt s.rows k := ⟨_, hrk, rfl⟩
  have hR := hs.rows id _ hrow
  have hK := hs.rows k _ hrk
  have hdist := hs.dist
  have hlti : ∀ b, (m id).S b → b < w.heap.size := fun b h => hs.lt hlid h
  have hltk : ∀ b, (m k).S b → b < w.heap.size := fun b h => hs.lt hlk h
  generalize hmi : m id = vi at *
  generalize hmk : m k = vk at *
  cases hR with
  | tree vi t1 e1 nl1 h1' xs1 vals Sf hown h1 h2 hw hr hd hn hz1 hS hkn =>
    cases hK with
    | tree vk t2 e2 nl2 h2' ys1 vals2 Sf2 hown2 k1 k2 hw2 hr2 hd2 hn2 hz2 hS2 hkn2 =>
      have hl1 : vals.length = xs.length * e := hown.1
      have hl2 : vals2.length = ys.length * e := hown2.1
      rcases hown2.2 with ⟨ey, hn0⟩ | ⟨g2, cap2, cur2, ey, h02, hh2, hle2, hmx2, hsz2, htk2⟩
      · omega
      · have hcell2 := World.ownsRow.cells hown2 (show vk.v.ownBlock = some g2 by rw [ey]; rfl)
        have hone2 : ∀ u ∈ vals2, u.oneCell' = true := by
          intro u hu
          obtain ⟨q, hq⟩ := List.getElem?_of_mem hu
          have hq1 : q < ys.length * e := by rw [← hl2]; exact (List.getElem?_eq_some_iff.1 hq).1
          obtain ⟨x0, c0, u0, hx0, hc0, hu0, e0⟩ := cellAt hown2 hw2 hq1
          have := hr2 _ x0 _ c0 u0 hx0 hc0 hu0
          rw [e0] at hu0
          rw [hq] at hu0
          cases hu0
          exact this.oneCell
        obtain ⟨v', w', hrun, hown', hg, hnil, hblk⟩ := run_append_own_at (P := P) w 0 T ty el inf z e by' hT hinf hz hsz hbytes hzs he vi.v xs.length vals hown ⟨g2, 0, none⟩ ys.length cap2 vals2 hl2 hcell2 hone2
          (by simpa [maxLen] using hmx) hby (Nat.zero_le _)
        have hvb : vi.v.ownBlock = blk vi.v := by
          rcases hown.2 with ⟨e, _⟩ | ⟨g, cp, cur, e, _⟩ <;> rw [e] <;> rfl
        have hv'b : v'.ownBlock = blk v' := by
          rcases hown'.2 with ⟨e, _⟩ | ⟨g, cp, cur, e, _⟩ <;> rw [e] <;> rfl
        have hrun' : (Builtin.append_ #[T, T] ty #[a.eval x, a.eval y]).run P w = .ok v' w' := by
          rw [hvx, hvy, ey]; exact hrun
        have hblk2 : ∀ b, blk v' = some b → vi.S b ∨ w.heap.size ≤ b := by
          intro b hb
          rw [← hv'b] at hb
          rcases hblk with h3 | h3
          · left; refine (hS b).2 (.inl ?_); rw [← hvb, ← h3]; exact hb
          · right; rw [h3] at hb; cases hb; exact Nat.le_refl _
        have hdisj : ∀ b, vi.S b → vk.S b → False := fun b h3 h4 => hne (hdist id k b hlid hlk (by rw [hmi]; exact h3) (by rw [hmk]; exact h4))
        let Sf' : Nat → Nat → Prop := fun q b => if q < xs.length * e then Sf q b else Sf2 (q - xs.length * e) b
        have hSfi : ∀ q b, Sf q b → vi.S b := fun q b h => (hS b).2 (.inr ⟨q, h⟩)
        have hSfk : ∀ q b, Sf2 q b → vk.S b := fun q b h => (hS2 b).2 (.inr ⟨q, h⟩)
        have hj := hs.joinRow (w' := w') (bo := blk vi.v) hne hlid hlk hnb hnk (fun b hb => by rw [hmi]; exact (hS b).2 (.inl hb)) (by rw [← hvb]; exact hg) (.tree el e (if nl = some false then some false else none) none (xs ++ ys)) ⟨v', fun b => blk v' = some b ∨ ∃ q, Sf' q b⟩
          (fun b hb => by
            rw [hmi, hmk]
            rcases hb with hb | ⟨q, hb⟩
            · rcases hblk2 b hb with h3 | h3
              · exact .inl h3
              · exact .inr (.inr h3)
            · simp only [Sf'] at hb
              split at hb
              · exact .inl (hSfi _ _ hb)
              · exact .inr (.inl (hSfk _ _ hb))) (fun hG => by
            refine .tree ⟨v', fun b => blk v' = some b ∨ ∃ q, Sf' q b⟩ el e _ none (xs ++ ys) (vals ++ vals2) Sf' (by simpa using hown') (fun h => by split at h <;> simp at h) (fun h => ?_) (fits_append hw hw2) ?_ ?_ ?_ ?_ (fun b => Iff.rfl) (fun _ _ h => by cases h)
            · split at h
              · rename_i hnl
                intro hv'
                exact h2 hnl (hnil.1 hv').1
              · simp at h
            · intro i x jj c u hx hc hu
              have hjj : jj < e := by
                have hf := fits_append hw hw2 i x hx
                rw [← hf.1]; exact (List.getElem?_eq_some_iff.1 hc).1
              rw [List.getElem?_append] at hx hu
              refine .inl ?_
              rcases Nat.lt_or_ge i xs.length with hi | hi
              · rw [if_pos hi] at hx
                have hq : i * e + jj < xs.length * e := by
                  have := Nat.mul_le_mul_right e (show i + 1 ≤ xs.length by omega)
                  rw [Nat.add_mul] at this
                  omega
                rw [if_pos (by omega)] at hu
                have hSi : Sf' (i * e + jj) = Sf (i * e + jj) := by funext b; show (if _ then _ else _) = _; rw [if_pos hq]
                rw [hSi]
                exact ((hr i x jj c u hx hc hu).tp).mono fun b hb => hg.block b (hlti b (hSfi _ _ hb)) (fun e => hn _ b hb (by rw [← hvb]; exact e.symm))
              · rw [if_neg (by omega)] at hx
                have hq : xs.length * e ≤ i * e + jj := by
                  have := Nat.mul_le_mul_right e hi
                  omega
                have hq2 : i * e + jj - xs.length * e = (i - xs.length) * e + jj := by
                  rw [Nat.sub_mul]
                  have := Nat.mul_le_mul_right e hi
                  omega
                rw [if_neg (by omega), hl1, hq2] at hu
                have hSi : Sf' (i * e + jj) = Sf2 ((i - xs.length) * e + jj) := by funext b; show (if _ then _ else _) = _; rw [if_neg (by omega), hq2]
                rw [hSi]
                exact ((hr2 (i - xs.length) x jj c u hx hc hu).tp).mono fun b hb => hg.block b (hltk b (hSfk _ _ hb)) (fun e => hdisj b ((hS b).2 (.inl (by rw [← hvb]; exact e.symm))) (hSfk _ _ hb))
            · intro q q' b h3 h4
              simp only [Sf'] at h3 h4
              split at h3 <;> split at h4
              · exact hd q q' b h3 h4
              · exact (hdisj b (hSfi _ _ h3) (hSfk _ _ h4)).elim
              · exact (hdisj b (hSfi _ _ h4) (hSfk _ _ h3)).elim
              · have := hd2 _ _ b h3 h4; omega
            · intro q b h3 h4
              have h5 : b < w.heap.size := by
                simp only [Sf'] at h3
                split at h3
                · exact hlti b (hSfi _ _ h3)
                · exact hltk b (hSfk _ _ h3)
              rw [← hv'b] at h4
              rcases hblk with h6 | h6
              · rw [h6, hvb] at h4
                simp only [Sf'] at h3
                split at h3
                · exact hn q b h3 h4
                · exact hdisj b ((hS b).2 (.inl h4)) (hSfk _ _ h3)
              · rw [h6] at h4; cases h4; omega
            · intro q b h3 h4
              simp only [Sf'] at h4
              rw [List.length_append, Nat.add_mul] at h3
              split at h4
              · omega
              · exact hz2 _ b (by omega) h4)
        refine ⟨v', w', _, by simp [execOp, resolve, invoke, builtin, hrun'], hj, ?_⟩
        have := RS.ref (w := w') (G := Gd C (((s.rows.map (Row.kill id)).set k .dead).set id (Row.tree el e (if nl = some false then some false else none) none (xs ++ ys))) (updM m id ⟨v', fun b => blk v' = some b ∨ ∃ q, Sf' q b⟩) w') (m := updM m id ⟨v', fun b => blk v' = some b ∨ ∃ q, Sf' q b⟩)
          (N := (((s.rows.map (Row.kill id)).set k .dead).set id (Row.tree el e (if nl = some false then some false else none) none (xs ++ ys))).length) id (by simpa using hidl)
        rw [updM_same] at this
        exact this

/-- A plain cell of such an element is read. -/
theorem lt_load_treeC {x : Operand} {T id R e i o : Nat} {nl : Option Bool} {xs : List PV} {p c : PV} {D : TypeDesc} (hx : getO s.env x = .ptr id e i o) (hrow : s.rows[id]? = some (.tree R e nl none xs))
    (hT : P.underlying T = some D) (hD : (match D with | .struct _ | .array _ _ => true | _ => false) = false) (hget : xs[i]? = some p) (hc : p.cells[o]? = some c) (hsc : c.scal = true) : Lt P C s ⟨some t, .load T x, ty, pos, af, none⟩ (.pv true c) := by
  intro m a w hs
  obtain ⟨b, vals, Sf, hv, hb, hown, hf, hcell, hr, _⟩ := hs.elemT hx hrow hget
  have ho : o < e := by rw [← hf.1]; exact (List.getElem?_eq_some_iff.1 hc).1
  have hi : i < xs.length := (List.getElem?_eq_some_iff.1 hget).1
  have hlt : i * e + o < xs.length * e := by
    have := Nat.mul_le_mul_right e (show i + 1 ≤ xs.length by omega)
    rw [Nat.add_mul] at this
    omega
  have hvl : vals.length = xs.length * e := hown.1
  have hu := List.getElem?_eq_getElem (show i * e + o < vals.length by omega)
  have hcl := hcell _ hlt
  rw [hu] at hcl
  refine ⟨vals[i * e + o], fun w' hw' => ?_, .pv _ _ _ (((hr i p o c _ hget hc hu).rp (G := fun _ => True) (fun _ _ => trivial)).scal_any hsc)⟩
  have hcell := hw'.cell hcl
  have hagg := isAgg_false hT hD w'
  simp [execOp, Instr.loadAt, hv, Instr.sureAddr, loadVar, hagg, load, Sem.run, hcell]

theorem vo_load_treeC {x : Operand} {T id R e i o : Nat} {nl : Option Bool} {xs : List PV} {p c : PV} {D : TypeDesc} (ht : Nat.blt t s.n = true) (hx : getO s.env x = .ptr id e i o) (hrow : s.rows[id]? = some (.tree R e nl none xs))
    (hT : P.underlying T = some D) (hD : (match D with | .struct _ | .array _ _ => true | _ => false) = false) (hget : xs[i]? = some p) (hc : p.cells[o]? = some c) (hsc : c.scal = true)
    (next : VO P C ops rest Q (s.put t (.pv true c))) : VO P C ops (⟨some t, .load T x, ty, pos, af, none⟩ :: rest) Q s := vo_pure ht (lt_load_treeC hx hrow hT hD hget hc hsc) next

theorem SimM.weaktree {m : Nat → MV} {a : Act} {w : World} (hs : SimM C s m a w) {id R e : Nat} {nl : Option Bool} {xs : List PV} (hrow : s.rows[id]? = some (.tree R e nl none xs)) : SimM C ⟨s.n, s.env, s.rows.set id (.tree R e none none xs)⟩ m a w := by
  have hlid : liveAt s.rows id := ⟨_, hrow, rfl⟩
  refine hs.storeRow (w' := w) hlid (bo := none) (fun b h => by cases h) (grown_refl w) _ (fun hG => ?_)
  have := (hs.rows id _ hrow).mono hG (Nat.le_refl _) (fun _ _ => rfl) (fun _ _ _ => rfl)
  generalize m id = mv at this ⊢
  cases this with
  | tree mv t' e nl h xs vals Sf hown h1 h2 hw hr hd hn hz hS hkn =>
    exact .tree _ _ _ none none _ vals Sf hown (fun h => by cases h) (fun h => by cases h) hw hr hd hn hz hS hkn

theorem vo_weaktree {l : List Oper} (id : Nat) {R e : Nat} {nl : Option Bool} {xs : List PV} (hrow : s.rows[id]? = some (.tree R e nl none xs)) (next : VO P C ops l Q ⟨s.n, s.env, s.rows.set id (.tree R e none none xs)⟩) : VO P C ops l Q s :=
  fun a w ⟨m, hs⟩ => next a w ⟨m, hs.weaktree hrow⟩
theorem vc_weaktree {code : Code} (id : Nat) {R e : Nat} {nl : Option Bool} {xs : List PV} (hrow : s.rows[id]? = some (.tree R e nl none xs)) (next : VC P C code Q ⟨s.n, s.env, s.rows.set id (.tree R e none none xs)⟩) : VC P C code Q s :=
  fun a w ⟨m, hs⟩ => next a w ⟨m, hs.weaktree hrow⟩
end
end Go.Vl

/- Maps from numbers to numbers that the call made itself. -/
namespace Go.Vl
set_option linter.unusedVariables false
set_option linter.unusedSimpArgs false
open Go.RowKit

def mapI (h : Int → Option Int) : Int → Option PV := fun k => (h k).map intP
def updI (h : Int → Option Int) (k v : Int) : Int → Option Int := fun j => if j = k then some v else h j
def delI (h : Int → Option Int) (k : Int) : Int → Option Int := fun j => if j = k then none else h j
def nilI : Int → Option Int := fun _ => none

section
variable {P : Program} {C : Ctx} {Q : Go.Exit → St → Prop} {s : St} {ops : Array Oper} {rest : List Oper} {t : Nat} {ty : TypeId} {pos : String} {af : Array Edge}

theorem vo_unitV {op : Op} {s1 : St} (hrun : ∀ m a w, SimM C s m a w → ∃ v w' m', (execOp a.eval ⟨none, op, ty, pos, af, none⟩).run P w = .ok (.value v) w' ∧ SimM C s1 m' a w')
    (next : VO P C ops rest Q s1) : VO P C ops (⟨none, op, ty, pos, af, none⟩ :: rest) Q s := by
  intro a w ⟨m, hs⟩
  obtain ⟨v, w', m', hr, hs'⟩ := hrun m a w hs
  refine wpList_plain rfl fun K hK => ?_
  unfold Oper.wp
  rw [hr, Oper.upon_value]
  exact hK _ _ (next _ _ ⟨m', hs'⟩)

theorem MapIs.isKey {es : Array MapEntry} {g : Int → Option PV} (h : MapIs es g) : ∀ x ∈ es.toList, MapKept.IsKey (.int .i64) x.key := by
  intro x hx
  obtain ⟨i, hi⟩ := List.getElem?_of_mem hx
  obtain ⟨k, hk⟩ := h.keys i x (by simpa using hi)
  rw [hk]
  simp [MapKept.IsKey]

theorem MapIs.find {es : Array MapEntry} {g : Int → Option PV} (h : MapIs es g) (k : Int) :
    (Instr.findNow (.int .i64) (.int .i64 k) es.toList 0 = some none ∧ g k = none) ∨
      ∃ j e p, Instr.findNow (.int .i64) (.int .i64 k) es.toList 0 = some (some (j, e.val)) ∧ es[j]? = some e ∧ e.key = .int .i64 k ∧ g k = some p ∧ p.scal = true ∧ RP default (fun _ => False) p e.val := by
  rcases MapKept.findNow_spec (d := .int .i64) (k := .int .i64 k) (by simp [MapKept.IsKey]) es.toList 0 h.isKey with ⟨h1, h2⟩ | ⟨j, e, h1, h2, h3⟩
  · left
    refine ⟨h1, ?_⟩
    cases hg : g k with
    | none => rfl
    | some p =>
      obtain ⟨i, e, hi, he⟩ := h.get k p hg
      exact (h2 e (by rw [Array.mem_toList_iff]; exact Array.mem_of_getElem? hi) he).elim
  · right
    rw [Nat.zero_add] at h1
    have h2' : es[j]? = some e := by simpa using h2
    obtain ⟨p, g1, g2, g3⟩ := h.has j e k h2' h3
    exact ⟨j, e, p, h1, h2', h3, g1, g2, g3⟩

theorem MapIs.upd {es : Array MapEntry} {h : Int → Option Int} (H : MapIs es (mapI h)) {k v : Int} {clock : Nat} :
    (Instr.findNow (.int .i64) (.int .i64 k) es.toList 0 = some none → MapIs (es.push ⟨.int .i64 k, .int .i64 v, clock⟩) (mapI (updI h k v))) ∧
      (∀ j e, Instr.findNow (.int .i64) (.int .i64 k) es.toList 0 = some (some (j, e.val)) → es[j]? = some e → e.key = .int .i64 k → MapIs (es.modify j fun e => { e with key := .int .i64 k, val := .int .i64 v }) (mapI (updI h k v))) := by
  have hrp : RP default (fun _ => False) (intP v) (.int .i64 v) := .int _ _
  constructor
  · intro hf
    rcases H.find k with ⟨_, hg⟩ | ⟨j, e, p, h1, _⟩
    · have hget : ∀ (i : Nat) (x : MapEntry), (es.push ⟨.int .i64 k, .int .i64 v, clock⟩)[i]? = some x → (es[i]? = some x ∧ i < es.size) ∨ (i = es.size ∧ x = ⟨.int .i64 k, .int .i64 v, clock⟩) := by
        intro i x hx
        rw [Array.getElem?_push] at hx
        split at hx
        · rename_i e; cases hx; exact .inr ⟨e, rfl⟩
        · exact .inl ⟨hx, (Array.getElem?_eq_some_iff.1 hx).1⟩
      have hnk : ∀ (i : Nat) (x : MapEntry), es[i]? = some x → x.key ≠ .int .i64 k := by
        intro i x hx he
        obtain ⟨p, g1, _⟩ := H.has i x k hx he
        rw [hg] at g1; cases g1
      refine ⟨fun i x hx => ?_, fun i x k' hx hk' => ?_, fun k' p hp => ?_, fun i j x y hx hy hxy => ?_⟩
      · rcases hget i x hx with ⟨h1, _⟩ | ⟨_, rfl⟩
        · exact H.keys i x h1
        · exact ⟨k, rfl⟩
      · rcases hget i x hx with ⟨h1, _⟩ | ⟨_, rfl⟩
        · obtain ⟨p, g1, g2, g3⟩ := H.has i x k' h1 hk'
          have hne : k' ≠ k := fun e => hnk i x h1 (by rw [hk', e])
          exact ⟨p, by simp only [mapI, updI, if_neg hne]; exact g1, g2, g3⟩
        · cases hk'
          exact ⟨intP v, by simp [mapI, updI], rfl, hrp⟩
      · by_cases e : k' = k
        · subst e
          exact ⟨es.size, ⟨.int .i64 k', .int .i64 v, clock⟩, by simp, rfl⟩
        · have hp' : mapI h k' = some p := by simpa only [mapI, updI, if_neg e] using hp
          obtain ⟨i, x, h1, h2⟩ := H.get k' p hp'
          exact ⟨i, x, by rw [Array.getElem?_push, if_neg (by have := (Array.getElem?_eq_some_iff.1 h1).1; omega)]; exact h1, h2⟩
      · rcases hget i x hx with ⟨h1, h1'⟩ | ⟨h1, rfl⟩ <;> rcases hget j y hy with ⟨h2, h2'⟩ | ⟨h2, rfl⟩
        · exact H.diff i j x y h1 h2 hxy
        · exact (hnk i x h1 hxy).elim
        · exact (hnk j y h2 hxy.symm).elim
        · omega
    · rw [hf] at h1; cases h1
  · intro j e hf he hk
    have hget : ∀ (i : Nat) (x : MapEntry), (es.modify j fun e => { e with key := .int .i64 k, val := .int .i64 v })[i]? = some x → ∃ y, es[i]? = some y ∧ x.key = y.key ∧ ((i ≠ j ∧ x = y) ∨ (i = j ∧ x.val = .int .i64 v)) := by
      intro i x hx
      rw [Array.getElem?_modify] at hx
      split at hx
      · rename_i e0
        subst e0
        rw [he] at hx
        cases hx
        exact ⟨e, he, hk.symm, .inr ⟨rfl, rfl⟩⟩
      · rename_i e0
        exact ⟨x, hx, rfl, .inl ⟨Ne.symm e0, rfl⟩⟩
    refine ⟨fun i x hx => ?_, fun i x k' hx hk' => ?_, fun k' p hp => ?_, fun i i' x y hx hy hxy => ?_⟩
    · obtain ⟨y, h1, h2, _⟩ := hget i x hx
      rw [h2]; exact H.keys i y h1
    · obtain ⟨y, h1, h2, h3⟩ := hget i x hx
      rw [h2] at hk'
      rcases h3 with ⟨h4, rfl⟩ | ⟨rfl, h5⟩
      · obtain ⟨p, g1, g2, g3⟩ := H.has i x k' h1 hk'
        have hne : k' ≠ k := fun e' => h4 (H.diff i j x e h1 he (by rw [hk', hk, e']))
        exact ⟨p, by simp only [mapI, updI, if_neg hne]; exact g1, g2, g3⟩
      · rw [he] at h1; cases h1
        rw [hk] at hk'
        cases hk'
        exact ⟨intP v, by simp [mapI, updI], rfl, by rw [h5]; exact hrp⟩
    · by_cases e' : k' = k
      · subst e'
        exact ⟨j, _, by rw [Array.getElem?_modify, if_pos rfl, he]; rfl, rfl⟩
      · have hp' : mapI h k' = some p := by simpa only [mapI, updI, if_neg e'] using hp
        obtain ⟨i, x, h1, h2⟩ := H.get k' p hp'
        have hij : j ≠ i := fun e0 => by subst e0; rw [he] at h1; cases h1; rw [hk] at h2; cases h2; exact e' rfl
        exact ⟨i, x, by rw [Array.getElem?_modify, if_neg hij]; exact h1, h2⟩
    · obtain ⟨x', h1, h2, _⟩ := hget i x hx
      obtain ⟨y', h3, h4, _⟩ := hget i' y hy
      exact H.diff i i' x' y' h1 h3 (by rw [← h2, ← h4]; exact hxy)

theorem MapIs.del {es : Array MapEntry} {h : Int → Option Int} (H : MapIs es (mapI h)) {k : Int} :
    (mapI h k = none → MapIs es (mapI (delI h k))) ∧ (∀ (j : Nat) (e : MapEntry), es[j]? = some e → e.key = .int .i64 k → MapIs (es.eraseIdxIfInBounds j) (mapI (delI h k))) := by
  constructor
  · intro hg
    have : mapI (delI h k) = mapI h := by
      funext k'
      by_cases e : k' = k
      · subst e; rw [hg]; simp [mapI, delI]
      · simp only [mapI, delI, if_neg e]
    rw [this]
    exact H
  · intro j e he hk
    have hj : j < es.size := (Array.getElem?_eq_some_iff.1 he).1
    have hget : ∀ i, (es.eraseIdxIfInBounds j)[i]? = if i < j then es[i]? else es[i + 1]? := by
      intro i
      unfold Array.eraseIdxIfInBounds
      rw [dif_pos hj, Array.getElem?_eraseIdx]
    have hsrc : ∀ (i : Nat) (x : MapEntry), (es.eraseIdxIfInBounds j)[i]? = some x → ∃ q, es[q]? = some x ∧ q ≠ j ∧ q = if i < j then i else i + 1 := by
      intro i x hx
      rw [hget] at hx
      split at hx
      · rename_i h1; exact ⟨i, hx, by omega, by rw [if_pos h1]⟩
      · rename_i h1; exact ⟨i + 1, hx, by omega, by rw [if_neg h1]⟩
    refine ⟨fun i x hx => ?_, fun i x k' hx hk' => ?_, fun k' p hp => ?_, fun i i' x y hx hy hxy => ?_⟩
    · obtain ⟨q, h1, _⟩ := hsrc i x hx
      exact H.keys q x h1
    · obtain ⟨q, h1, h2, _⟩ := hsrc i x hx
      obtain ⟨p, g1, g2, g3⟩ := H.has q x k' h1 hk'
      have hne : k' ≠ k := fun e' => h2 (H.diff q j x e h1 he (by rw [hk', hk, e']))
      exact ⟨p, by simp only [mapI, delI, if_neg hne]; exact g1, g2, g3⟩
    · have hne : k' ≠ k := by
        intro e'
        simp [mapI, delI, e'] at hp
      have hp' : mapI h k' = some p := by simpa only [mapI, delI, if_neg hne] using hp
      obtain ⟨q, x, h1, h2⟩ := H.get k' p hp'
      have hq : q ≠ j := fun e0 => by subst e0; rw [he] at h1; cases h1; rw [hk] at h2; cases h2; exact hne rfl
      rcases Nat.lt_or_ge q j with h3 | h3
      · exact ⟨q, x, by rw [hget, if_pos h3]; exact h1, h2⟩
      · exact ⟨q - 1, x, by rw [hget, if_neg (by omega), show q - 1 + 1 = q by omega]; exact h1, h2⟩
    · obtain ⟨q, h1, h2, h3⟩ := hsrc i x hx
      obtain ⟨q', h4, h5, h6⟩ := hsrc i' y hy
      have := H.diff q q' x y h1 h4 hxy
      subst this
      split at h3 <;> split at h6 <;> omega

theorem SimM.mapR {m : Nat → MV} {a : Act} {w : World} (hs : SimM C s m a w) {x : Operand} {id : Nat} {g : Int → Option PV} (hx : getO s.env x = .ref id) (hrow : s.rows[id]? = some (.mp g)) :
    ∃ (b : Nat) (es : Array MapEntry) (clock : Nat), a.eval x = .map (some b) ∧ m id = .of (.map (some b)) ∧ w.heap[b]? = some (.map es clock) ∧ MapIs es g := by
  obtain ⟨h1, _⟩ := hs.row hx
  have hR := hs.rows id _ hrow
  generalize m id = mv at *
  cases hR with
  | mp b g es clock hb hm => exact ⟨b, es, clock, h1, rfl, hb, hm⟩

theorem vo_makeMap {T : TypeId} (ht : Nat.blt t s.n = true) (next : VO P C ops rest Q ⟨s.n, (t, .ref s.rows.length) :: s.env, s.rows ++ [Row.mp (mapI nilI)]⟩) :
    VO P C ops (⟨some t, .makeMap T none, ty, pos, af, none⟩ :: rest) Q s := by
  refine vo_value (s1 := ⟨s.n, s.env, s.rows ++ [Row.mp (mapI nilI)]⟩) (sv := .ref s.rows.length) ht (fun m a w hs => ?_) next
  have hadd := hs.addRow (w' := w.alloc (.map #[] 0)) (World.grownBy_alloc w _ none) (.mp (mapI nilI)) (.of (.map (some w.heap.size))) (fun b hb => by simp [MV.of, blk] at hb; omega)
    (fun hG => .mp w.heap.size _ #[] 0 (heap_alloc_new w _) ⟨fun i e h => by simp at h, fun i e k h => by simp at h, fun k p h => by simp [mapI, nilI] at h, fun i j e f h => by simp at h⟩)
  refine ⟨.map (some w.heap.size), _, _, by simp [execOp, Instr.makeMap], hadd.1, ?_⟩
  have := RS.ref (w := w.alloc (.map #[] 0)) (G := Gd C (s.rows ++ [Row.mp (mapI nilI)]) (updM m s.rows.length (.of (.map (some w.heap.size)))) (w.alloc (.map #[] 0))) (m := updM m s.rows.length (.of (.map (some w.heap.size)))) (N := (s.rows ++ [Row.mp (mapI nilI)]).length) s.rows.length (by simp)
  rw [updM_same] at this
  exact this

theorem zero_i64 {E : TypeId} {inf : TypeInfo} (hinf : P.info? E = some inf) (hz : inf.zero = some (.int .i64 0)) (w : World) : (zeroValue E).run P w = .ok (.int .i64 0) w := by
  simp [zeroValue, typeInfo, hinf, hz]

theorem lt_lookup {x y : Operand} {T K E : TypeId} {id : Nat} {f : Bool} {k : Int} {h : Int → Option Int} {inf : TypeInfo} (hx : getO s.env x = .ref id) (hrow : s.rows[id]? = some (.mp (mapI h))) (hy : getO s.env y = .pv f (.int .i64 k))
    (hT : P.underlying T = some (.map K E)) (hK : P.underlying K = some (.int .i64)) (hinf : P.info? E = some inf) (hz : inf.zero = some (.int .i64 0)) :
    Lt P C s ⟨some t, .lookup T x y true, ty, pos, af, none⟩ (.tup [.pv true (.int .i64 ((h k).getD 0)), .pv true (.bool (h k).isSome)]) := by
  intro m a w hs
  obtain ⟨b, es, clock, hv, _, hb, hm⟩ := hs.mapR hx hrow
  have hk := hs.int hy
  have hblt : b < w.heap.size := (Array.getElem?_eq_some_iff.1 hb).1
  refine ⟨.tuple #[.int .i64 ((h k).getD 0), .bool (h k).isSome], fun w' hw' => ?_, ?_⟩
  · have hb' : w'.heap[b]? = some (.map es clock) := by rw [hw'.2 b hblt]; exact hb
    have hck := MapKept.run_checkKey (P := P) (w := w') hK (k := .int .i64 k) (by simp [MapKept.IsKey]) es.isEmpty 9999
    rcases hm.find k with ⟨h1, h2⟩ | ⟨j, e, p, h1, h2, h3, h4, h5, h6⟩
    · have h2 : h k = none := by
        cases hh : h k with
        | none => rfl
        | some v => simp [mapI, hh] at h2
      simp [execOp, Instr.lookup, hv, hk, run_underlying hT, MapKept.run_getObj_map hb', hck, MapKept.run_findKey hK h1, zero_i64 hinf hz, h2, Result.andThen]
    · have h4' : ∃ v, h k = some v ∧ e.val = .int .i64 v := by
        cases hh : h k with
        | none => simp [mapI, hh] at h4
        | some v =>
          simp only [mapI, hh, Option.map_some, Option.some.injEq] at h4
          subst h4
          refine ⟨v, rfl, ?_⟩
          generalize e.val = u at h6
          cases h6
          rfl
      obtain ⟨v, e1, e2⟩ := h4'
      rw [e2] at h1
      simp [execOp, Instr.lookup, hv, hk, run_underlying hT, MapKept.run_getObj_map hb', hck, MapKept.run_findKey hK h1, e1, Result.andThen]
  · refine .tup _ _ rfl (fun j c u hc hu => ?_)
    match j, hc, hu with
    | 0, hc, hu => simp at hc hu; subst hc; subst hu; exact .pv _ _ _ (.int _ _)
    | 1, hc, hu => simp at hc hu; subst hc; subst hu; exact .pv _ _ _ (.bool _)

theorem vo_lookup {x y : Operand} {T K E : TypeId} {id : Nat} {f : Bool} {k : Int} {h : Int → Option Int} {inf : TypeInfo} (ht : Nat.blt t s.n = true) (hx : getO s.env x = .ref id) (hrow : s.rows[id]? = some (.mp (mapI h))) (hy : getO s.env y = .pv f (.int .i64 k))
    (hT : P.underlying T = some (.map K E)) (hK : P.underlying K = some (.int .i64)) (hinf : P.info? E = some inf) (hz : inf.zero = some (.int .i64 0))
    (next : VO P C ops rest Q (s.put t (.tup [.pv true (.int .i64 ((h k).getD 0)), .pv true (.bool (h k).isSome)]))) : VO P C ops (⟨some t, .lookup T x y true, ty, pos, af, none⟩ :: rest) Q s := vo_pure ht (lt_lookup hx hrow hy hT hK hinf hz) next

theorem heap_setB {w : World} {b : Nat} {o o' : Obj} (hb : w.heap[b]? = some o) : (ChangeMaps.setBlock w b o').heap[b]? = some o' ∧ w.grownBy (ChangeMaps.setBlock w b o') (some b) := by
  have hlt : b < w.heap.size := (Array.getElem?_eq_some_iff.1 hb).1
  refine ⟨by simp [ChangeMaps.setBlock, hlt], rfl, rfl, rfl, by simp [ChangeMaps.setBlock], fun k _ hk => ?_⟩
  simp only [ChangeMaps.setBlock]
  rw [Array.getElem?_setIfInBounds, if_neg (fun e => hk (by rw [e]))]

theorem SimM.mapSet {m : Nat → MV} {a : Act} {w : World} (hs : SimM C s m a w) {id b : Nat} {g g' : Int → Option PV} {es es' : Array MapEntry} {clock clock' : Nat} (hrow : s.rows[id]? = some (.mp g)) (hm : m id = .of (.map (some b))) (hb : w.heap[b]? = some (.map es clock)) (hm' : MapIs es' g') :
    SimM C ⟨s.n, s.env, s.rows.set id (.mp g')⟩ m a (ChangeMaps.setBlock w b (.map es' clock')) := by
  obtain ⟨h1, h2⟩ := heap_setB (o' := .map es' clock') hb
  refine hs.storeRow ⟨_, hrow, rfl⟩ (fun b' e => by cases e; rw [hm]; rfl) h2 _ (fun hG => ?_)
  rw [hm]
  exact .mp b g' es' clock' h1 hm'

theorem vo_mapUpdate {x y z : Operand} {T K E : TypeId} {id : Nat} {f f2 : Bool} {k v : Int} {h : Int → Option Int} (hx : getO s.env x = .ref id) (hrow : s.rows[id]? = some (.mp (mapI h))) (hy : getO s.env y = .pv f (.int .i64 k)) (hz : getO s.env z = .pv f2 (.int .i64 v))
    (hT : P.underlying T = some (.map K E)) (hK : P.underlying K = some (.int .i64))
    (next : VO P C ops rest Q ⟨s.n, s.env, s.rows.set id (Row.mp (mapI (updI h k v)))⟩) : VO P C ops (⟨none, .mapUpdate T x y z, ty, pos, af, none⟩ :: rest) Q s := by
  refine vo_unit (s1 := ⟨s.n, s.env, s.rows.set id (Row.mp (mapI (updI h k v)))⟩) (fun m a w hs => ?_) next
  obtain ⟨b, es, clock, hv, hmv, hb, hm⟩ := hs.mapR hx hrow
  have hk := hs.int hy
  have hzv := hs.int hz
  have hck := MapKept.run_checkKey (P := P) (w := w) hK (k := .int .i64 k) (by simp [MapKept.IsKey]) false 9999
  rcases hm.find k with ⟨h1, h2⟩ | ⟨j, e, p, h1, h2, h3, h4, h5, h6⟩
  · refine ⟨_, m, ?_, hs.mapSet (clock' := clock + 1) hrow hmv hb ((hm.upd (v := v) (clock := clock)).1 h1)⟩
    simp [execOp, Instr.mapUpdate, hv, hk, hzv, run_underlying hT, MapKept.run_getObj_map hb, hck, MapKept.run_findKey hK h1, MapKept.run_setObj_map _ hb, Result.andThen, ChangeMaps.setBlock]
  · refine ⟨_, m, ?_, hs.mapSet (clock' := clock) hrow hmv hb ((hm.upd (v := v) (clock := clock)).2 j e h1 h2 h3)⟩
    have hks := MapKept.run_keyThatStays (P := P) (w := w) (d := .int .i64) (k := .int .i64 k) (by simp [MapKept.IsKey])
    simp [execOp, Instr.mapUpdate, hv, hk, hzv, run_underlying hT, MapKept.run_getObj_map hb, hck, MapKept.run_findKey hK h1, h2, h3, hks, MapKept.run_setObj_map _ hb, Result.andThen, ChangeMaps.setBlock]

theorem vo_delete {x y : Operand} {T K E : TypeId} {id : Nat} {f : Bool} {k : Int} {h : Int → Option Int} (hx : getO s.env x = .ref id) (hrow : s.rows[id]? = some (.mp (mapI h))) (hy : getO s.env y = .pv f (.int .i64 k))
    (hT : P.underlying T = some (.map K E)) (hK : P.underlying K = some (.int .i64))
    (next : VO P C ops rest Q ⟨s.n, s.env, s.rows.set id (Row.mp (mapI (delI h k)))⟩) : VO P C ops (⟨none, .call ⟨.builtin .delete, #[x, y], #[T, K]⟩, ty, pos, af, none⟩ :: rest) Q s := by
  refine vo_unitV (s1 := ⟨s.n, s.env, s.rows.set id (Row.mp (mapI (delI h k)))⟩) (fun m a w hs => ?_) next
  obtain ⟨b, es, clock, hv, hmv, hb, hm⟩ := hs.mapR hx hrow
  have hk := hs.int hy
  have hck := MapKept.run_checkKey (P := P) (w := w) hK (k := .int .i64 k) (by simp [MapKept.IsKey]) es.isEmpty 9999
  rcases hm.find k with ⟨h1, h2⟩ | ⟨j, e, p, h1, h2, h3, h4, h5, h6⟩
  · refine ⟨.tuple #[], _, m, ?_, hs.mapSet (clock' := clock) hrow hmv hb (hm.del.1 h2)⟩
    simp [execOp, resolve, invoke, builtin, Builtin.delete_, hv, hk, run_underlying hT, MapKept.run_getObj_map hb, hck, MapKept.run_findKey hK h1, MapKept.run_setObj_map _ hb, Result.andThen, ChangeMaps.setBlock]
  · refine ⟨.tuple #[], _, m, ?_, hs.mapSet (clock' := clock) hrow hmv hb (hm.del.2 j e h2 h3)⟩
    simp [execOp, resolve, invoke, builtin, Builtin.delete_, hv, hk, run_underlying hT, MapKept.run_getObj_map hb, hck, MapKept.run_findKey hK h1, MapKept.run_setObj_map _ hb, Result.andThen, ChangeMaps.setBlock]

theorem vo_clearMap {x : Operand} {T K E : TypeId} {id : Nat} {g : Int → Option PV} (hx : getO s.env x = .ref id) (hrow : s.rows[id]? = some (.mp g))
    (hT : P.underlying T = some (.map K E))
    (next : VO P C ops rest Q ⟨s.n, s.env, s.rows.set id (Row.mp (mapI nilI))⟩) : VO P C ops (⟨none, .call ⟨.builtin .clear, #[x], #[T]⟩, ty, pos, af, none⟩ :: rest) Q s := by
  refine vo_unitV (s1 := ⟨s.n, s.env, s.rows.set id (Row.mp (mapI nilI))⟩) (fun m a w hs => ?_) next
  obtain ⟨b, es, clock, hv, hmv, hb, hm⟩ := hs.mapR hx hrow
  refine ⟨.tuple #[], _, m, ?_, hs.mapSet (es' := #[]) (g' := mapI nilI) (clock' := clock) hrow hmv hb ⟨fun i e h => by simp at h, fun i e k h => by simp at h, fun k p h => by simp [mapI, nilI] at h, fun i j e f h => by simp at h⟩⟩
  simp [execOp, resolve, invoke, builtin, Builtin.clear_, hv, run_underlying hT, MapKept.run_getObj_map hb, MapKept.run_setObj_map _ hb, Result.andThen, ChangeMaps.setBlock]
end
end Go.Vl

/- Parts of a slice of the call's own: 'append(x[:i], x[j:]...)', a slice cut shorter, 'clear' behind its end. -/
namespace Go.Vl
set_option linter.unusedVariables false
set_option linter.unusedSimpArgs false
open Go.RowKit

theorem sliceBounds_ok {P : Program} {C : Ctx} {s : St} {m : Nat → MV} {a : Act} {w w1 : World} (hs : SimM C s m a w) {lo hi : Option Operand} {l' h' len cap d : Nat}
    (hl : bnd s.env lo 0 = some (l' : Int)) (hh : bnd s.env hi d = some (h' : Int)) (hd : hi = none → len = d) (h1 : l' ≤ h') (h2 : h' ≤ cap) : (Instr.sliceBounds true len cap (lo.map a.eval) (hi.map a.eval) none).run P w1 = .ok (l', h', cap) w1 := by
  have r1 : ∀ y code, l' ≤ y → ∀ o, lo = some o → (Instr.sliceBound (a.eval o) y code).run P w1 = .ok l' w1 := by
    intro y code hy o ho
    subst ho
    simp only [bnd] at hl
    split at hl
    · rename_i f' k' n' he
      simp at hl
      subst hl
      have := hs.bnd_run (P := P) (w1 := w1) (y := y) (code := code) he (by omega) (by omega)
      simpa using this
    · simp at hl
  have r2 : ∀ y code, h' ≤ y → ∀ o, hi = some o → (Instr.sliceBound (a.eval o) y code).run P w1 = .ok h' w1 := by
    intro y code hy o ho
    subst ho
    simp only [bnd] at hh
    split at hh
    · rename_i f' k' n' he
      simp at hh
      subst hh
      have := hs.bnd_run (P := P) (w1 := w1) (y := y) (code := code) he (by omega) (by omega)
      simpa using this
    · simp at hh
  cases lo with
  | none =>
    simp [bnd] at hl
    cases hi with
    | none => have := hd rfl; simp [bnd] at hh; simp [Instr.sliceBounds]; omega
    | some o => simp [Instr.sliceBounds, r2 _ _ h2 o rfl]; omega
  | some ol =>
    cases hi with
    | none =>
      have := hd rfl
      simp [bnd] at hh
      have hh : len = h' := by omega
      subst hh
      simp [Instr.sliceBounds, r1 len _ h1 ol rfl]
    | some o => simp [Instr.sliceBounds, r2 _ _ h2 o rfl, r1 h' _ h1 ol rfl]

section
variable {P : Program} {C : Ctx} {Q : Go.Exit → St → Prop} {s : St} {ops : Array Oper} {rest : List Oper} {t : Nat} {ty : TypeId} {pos : String} {af : Array Edge}

theorem addr_mul (b q : Nat) : (⟨b, 0, none⟩ : Addr).add q = ⟨b, q, none⟩ := by
  unfold Addr.add
  split
  · rename_i h; simp [h]
  · simp

/-- A part of a row that is a slice. -/
theorem lt_slice_ref {x : Operand} {lo hi : Option Operand} {id R e : Nat} {nl : Option Bool} {xs : List PV} {T el : TypeId} {inf : TypeInfo} {l h : Int}
    (hx : getO s.env x = .ref id) (hrow : (s.rows[id]?).bind Row.sl = some (R, e, nl, xs)) (hl : bnd s.env lo 0 = some l) (hh : bnd s.env hi xs.length = some h)
    (hT : P.underlying T = some (.slice el)) (hinf : P.info? el = some inf) (hsz : inf.size = e) (h0 : 0 ≤ l) (h1 : l ≤ h) (h2 : h ≤ xs.length) :
    Lt P C s ⟨some t, .slice T x lo hi none, ty, pos, af, none⟩ (.sub id e l.toNat h.toNat xs.length) := by
  intro m a w hs
  obtain ⟨hv, hid⟩ := hs.row hx
  obtain ⟨⟨vals, hown⟩, _, _, _⟩ := hs.sl hrow
  obtain ⟨l', rfl⟩ := Int.eq_ofNat_of_zero_le h0
  obtain ⟨h', rfl⟩ := Int.eq_ofNat_of_zero_le (Int.le_trans h0 h1)
  simp only [Int.toNat_natCast]
  have g1 : l' ≤ h' := by omega
  have g2 : h' ≤ xs.length := by omega
  rcases hown.2 with ⟨e0, hn0⟩ | ⟨g, cap, cur, e0, _, hh', hle, hmx, hsz', htk⟩
  · have hb := fun w1 => sliceBounds_ok (P := P) (w1 := w1) (len := 0) (cap := 0) hs hl hh (fun _ => hn0.symm) g1 (by omega)
    have hl0 : l' = 0 := by omega
    have hh0 : h' = 0 := by omega
    subst hl0; subst hh0
    rw [e0] at hv
    refine ⟨.slice none 0 0, fun w1 _ => ?_, .sub id e 0 0 xs.length _ hid (.inl ⟨e0, rfl, rfl, hn0, rfl⟩)⟩
    simp [execOp, Instr.sliceAt, Instr.slice, run_underlying hT, hv, hb w1, sizeOf, typeInfo, hinf, hsz]
  · have hb := fun w1 => sliceBounds_ok (P := P) (w1 := w1) (len := xs.length) (cap := cap) hs hl hh (fun _ => rfl) g1 (by omega)
    rw [e0] at hv
    refine ⟨.slice (some (if cap = l' then ⟨g, 0, none⟩ else ⟨g, l' * e, none⟩)) (h' - l') (cap - l'), fun w1 _ => ?_, .sub id e l' h' xs.length _ hid (.inr ⟨g, xs.length, cap, e0, g1, g2, hle, rfl⟩)⟩
    have hA : (if cap = l' then some (⟨g, 0, none⟩ : Addr) else some ((⟨g, 0, none⟩ : Addr).add (l' * e))) = some (if cap = l' then ⟨g, 0, none⟩ else ⟨g, l' * e, none⟩) := by
      split <;> simp [addr_mul]
    simp [execOp, Instr.sliceAt, Instr.slice, run_underlying hT, hv, hb w1, sizeOf, typeInfo, hinf, hsz, hA]

theorem vo_slice_ref {x : Operand} {lo hi : Option Operand} {id R e : Nat} {nl : Option Bool} {xs : List PV} {T el : TypeId} {inf : TypeInfo} {l h : Int} (ht : Nat.blt t s.n = true)
    (hx : getO s.env x = .ref id) (hrow : (s.rows[id]?).bind Row.sl = some (R, e, nl, xs)) (hl : bnd s.env lo 0 = some l) (hh : bnd s.env hi xs.length = some h)
    (hT : P.underlying T = some (.slice el)) (hinf : P.info? el = some inf) (hsz : inf.size = e) (h0 : 0 ≤ l) (h1 : l ≤ h) (h2 : h ≤ xs.length)
    (next : VO P C ops rest Q (s.put t (.sub id e l.toNat h.toNat xs.length))) : VO P C ops (⟨some t, .slice T x lo hi none, ty, pos, af, none⟩ :: rest) Q s := vo_pure ht (lt_slice_ref hx hrow hl hh hT hinf hsz h0 h1 h2) next

theorem SimM.sub {m : Nat → MV} {a : Act} {w : World} (hs : SimM C s m a w) {x : Operand} {id e l h c : Nat} (hx : getO s.env x = .sub id e l h c) : isSub (m id).v e l h c (a.eval x) ∧ id < s.rows.length := by
  have := hs.get x
  rw [hx] at this
  generalize a.eval x = v at this
  cases this with
  | sub _ _ _ _ _ _ hid hs => exact ⟨hs, hid⟩

/-- A part of a part that begins at the row's beginning; it may reach behind the row's end. -/
theorem lt_slice_sub {x : Operand} {lo hi : Option Operand} {id e h0' c : Nat} {T el : TypeId} {inf : TypeInfo} {l h : Int}
    (hx : getO s.env x = .sub id e 0 h0' c) (hl : bnd s.env lo 0 = some l) (hh : bnd s.env hi h0' = some h)
    (hT : P.underlying T = some (.slice el)) (hinf : P.info? el = some inf) (hsz : inf.size = e) (h0 : 0 ≤ l) (h1 : l ≤ h) (h2 : h ≤ c) :
    Lt P C s ⟨some t, .slice T x lo hi none, ty, pos, af, none⟩ (.sub id e l.toNat h.toNat c) := by
  intro m a w hs
  obtain ⟨hv, hid⟩ := hs.sub hx
  obtain ⟨l', rfl⟩ := Int.eq_ofNat_of_zero_le h0
  obtain ⟨h', rfl⟩ := Int.eq_ofNat_of_zero_le (Int.le_trans h0 h1)
  simp only [Int.toNat_natCast]
  have g1 : l' ≤ h' := by omega
  have g2 : h' ≤ c := by omega
  rcases hv with ⟨e0, _, q2, q3, e1⟩ | ⟨b, n, cap, e0, q1, q2, q3, e1⟩
  · have hb := fun w1 => sliceBounds_ok (P := P) (w1 := w1) (len := 0) (cap := 0) hs hl hh (fun _ => q2.symm) g1 (by omega)
    have hl0 : l' = 0 := by omega
    have hh0 : h' = 0 := by omega
    subst hl0; subst hh0
    refine ⟨.slice none 0 0, fun w1 _ => ?_, .sub id e 0 0 c _ hid (.inl ⟨e0, rfl, rfl, q3, rfl⟩)⟩
    simp [execOp, Instr.sliceAt, Instr.slice, run_underlying hT, e1, hb w1, sizeOf, typeInfo, hinf, hsz]
  · have hA0 : (if cap = 0 then (⟨b, 0, none⟩ : Addr) else ⟨b, 0 * e, none⟩) = ⟨b, 0, none⟩ := by split <;> simp
    rw [hA0, Nat.sub_zero, Nat.sub_zero] at e1
    have hb := fun w1 => sliceBounds_ok (P := P) (w1 := w1) (len := h0') (cap := cap) hs hl hh (fun _ => rfl) g1 (by omega)
    refine ⟨.slice (some (if cap = l' then ⟨b, 0, none⟩ else ⟨b, l' * e, none⟩)) (h' - l') (cap - l'), fun w1 _ => ?_, .sub id e l' h' c _ hid (.inr ⟨b, n, cap, e0, g1, g2, q3, rfl⟩)⟩
    have hA : (if cap = l' then some (⟨b, 0, none⟩ : Addr) else some ((⟨b, 0, none⟩ : Addr).add (l' * e))) = some (if cap = l' then ⟨b, 0, none⟩ else ⟨b, l' * e, none⟩) := by
      split <;> simp [addr_mul]
    simp [execOp, Instr.sliceAt, Instr.slice, run_underlying hT, e1, hb w1, sizeOf, typeInfo, hinf, hsz, hA]

theorem vo_slice_sub {x : Operand} {lo hi : Option Operand} {id e h0' c : Nat} {T el : TypeId} {inf : TypeInfo} {l h : Int} (ht : Nat.blt t s.n = true)
    (hx : getO s.env x = .sub id e 0 h0' c) (hl : bnd s.env lo 0 = some l) (hh : bnd s.env hi h0' = some h)
    (hT : P.underlying T = some (.slice el)) (hinf : P.info? el = some inf) (hsz : inf.size = e) (h0 : 0 ≤ l) (h1 : l ≤ h) (h2 : h ≤ c)
    (next : VO P C ops rest Q (s.put t (.sub id e l.toNat h.toNat c))) : VO P C ops (⟨some t, .slice T x lo hi none, ty, pos, af, none⟩ :: rest) Q s := vo_pure ht (lt_slice_sub hx hl hh hT hinf hsz h0 h1 h2) next

/-- A part whose bound is checked, and which is not used. -/
theorem lt_slice3_ref {x lo hi mx : Operand} {id R e : Nat} {nl : Option Bool} {xs : List PV} {T el : TypeId} {inf : TypeInfo} {l h q : Int} {f1 f2 f3 : Bool}
    (hx : getO s.env x = .ref id) (hrow : (s.rows[id]?).bind Row.sl = some (R, e, nl, xs)) (hl : getO s.env lo = .pv f1 (.int .i64 l)) (hh : getO s.env hi = .pv f2 (.int .i64 h)) (hm : getO s.env mx = .pv f3 (.int .i64 q))
    (hT : P.underlying T = some (.slice el)) (hinf : P.info? el = some inf) (hsz : inf.size = e) (h0 : 0 ≤ l) (h1 : l ≤ h) (h2 : h ≤ q) (h3 : q ≤ xs.length) :
    Lt P C s ⟨some t, .slice T x (some lo) (some hi) (some mx), ty, pos, af, none⟩ .any := by
  intro m a w hs
  obtain ⟨hv, hid⟩ := hs.row hx
  obtain ⟨⟨vals, hown⟩, _, _, _⟩ := hs.sl hrow
  have e1 := hs.int hl
  have e2 := hs.int hh
  have e3 := hs.int hm
  have : ∃ ao cap, (m id).v = .slice ao xs.length cap ∧ xs.length ≤ cap := by
    rcases hown.2 with ⟨e0, hn0⟩ | ⟨g, cap, cur, e0, _, hh', hle, hmx, hsz', htk⟩
    · exact ⟨none, 0, by rw [e0, hn0], by omega⟩
    · exact ⟨_, cap, e0, hle⟩
  obtain ⟨ao, cap, e0, hle⟩ := this
  rw [e0] at hv
  obtain ⟨l', rfl⟩ := Int.eq_ofNat_of_zero_le h0
  obtain ⟨h', rfl⟩ := Int.eq_ofNat_of_zero_le (Int.le_trans h0 h1)
  obtain ⟨q', rfl⟩ := Int.eq_ofNat_of_zero_le (Int.le_trans (Int.le_trans h0 h1) h2)
  have k1 : l' ≤ h' := by omega
  have k2 : h' ≤ q' := by omega
  have k3 : q' ≤ cap := by omega
  have hb : ∀ w1, (Instr.sliceBounds true xs.length cap (some (a.eval lo)) (some (a.eval hi)) (some (a.eval mx))).run P w1 = .ok (l', h', q') w1 := by
    intro w1
    simp [Instr.sliceBounds, Instr.sliceBound, e1, e2, e3, asIntOf, k1, k2, k3]
  refine ⟨.slice (if q' = l' then ao else ao.map (·.add (l' * e))) (h' - l') (q' - l'), fun w1 _ => ?_, .any _⟩
  · simp [execOp, Instr.sliceAt, Instr.slice, run_underlying hT, hv, hb w1, sizeOf, typeInfo, hinf, hsz]

theorem vo_slice3_ref {x lo hi mx : Operand} {id R e : Nat} {nl : Option Bool} {xs : List PV} {T el : TypeId} {inf : TypeInfo} {l h q : Int} {f1 f2 f3 : Bool} (ht : Nat.blt t s.n = true)
    (hx : getO s.env x = .ref id) (hrow : (s.rows[id]?).bind Row.sl = some (R, e, nl, xs)) (hl : getO s.env lo = .pv f1 (.int .i64 l)) (hh : getO s.env hi = .pv f2 (.int .i64 h)) (hm : getO s.env mx = .pv f3 (.int .i64 q))
    (hT : P.underlying T = some (.slice el)) (hinf : P.info? el = some inf) (hsz : inf.size = e) (h0 : 0 ≤ l) (h1 : l ≤ h) (h2 : h ≤ q) (h3 : q ≤ xs.length)
    (next : VO P C ops rest Q (s.put t .any)) : VO P C ops (⟨some t, .slice T x (some lo) (some hi) (some mx), ty, pos, af, none⟩ :: rest) Q s := vo_pure ht (lt_slice3_ref hx hrow hl hh hm hT hinf hsz h0 h1 h2 h3) next

theorem lt_len_sub {x : Operand} {id e l h c : Nat} {T el : TypeId} (hx : getO s.env x = .sub id e l h c) (hT : P.underlying T = some (.slice el)) :
    Lt P C s ⟨some t, .call ⟨.builtin .len, #[x], #[T]⟩, ty, pos, af, none⟩ (.pv true (.int .i64 ((h - l : Nat) : Int))) := by
  intro m a w hs
  obtain ⟨hv, _⟩ := hs.sub hx
  refine ⟨.int .i64 ((h - l : Nat) : Int), fun w1 _ => ?_, .pv _ _ _ (.int _ _)⟩
  rcases hv with ⟨_, q1, q2, _, e1⟩ | ⟨b, n, cap, _, q1, q2, q3, e1⟩
  · subst q1; subst q2
    simp [execOp, resolve, invoke, builtin, Builtin.len_, e1, run_underlying hT, goInt]
  · simp [execOp, resolve, invoke, builtin, Builtin.len_, e1, run_underlying hT, goInt]

theorem vo_len_sub {x : Operand} {id e l h c : Nat} {T el : TypeId} (ht : Nat.blt t s.n = true) (hx : getO s.env x = .sub id e l h c) (hT : P.underlying T = some (.slice el))
    (next : VO P C ops rest Q (s.put t (.pv true (.int .i64 ((h - l : Nat) : Int))))) : VO P C ops (⟨some t, .call ⟨.builtin .len, #[x], #[T]⟩, ty, pos, af, none⟩ :: rest) Q s := vo_pure ht (lt_len_sub hx hT) next

/-- An element of a part. -/
theorem lt_index_sub {x i : Operand} {f2 : Bool} {id e l h c : Nat} {T el : TypeId} {k : IntKind} {n : Int} {inf : TypeInfo}
    (hx : getO s.env x = .sub id e l h c) (hi : getO s.env i = .pv f2 (.int k n)) (hT : P.underlying T = some (.slice el)) (hinf : P.info? el = some inf) (hsz : inf.size = e)
    (h0 : 0 ≤ n) (hn : n < (h - l : Nat)) : Lt P C s ⟨some t, .indexAddr T x i, ty, pos, af, none⟩ (.ptr id e (l + n.toNat) 0) := by
  intro m a w hs
  obtain ⟨hv, hid⟩ := hs.sub hx
  have e2 := hs.int hi
  obtain ⟨j, rfl⟩ := Int.eq_ofNat_of_zero_le h0
  have hj : j < h - l := by omega
  simp only [Int.toNat_natCast]
  rcases hv with ⟨_, q1, q2, _, e1⟩ | ⟨b, nn, cap, e0, q1, q2, q3, e1⟩
  · omega
  · rw [if_neg (by omega)] at e1
    refine ⟨.pointer (some ⟨b, (l + j) * e, none⟩), fun _ _ => ?_, .ptr id e (l + j) 0 b hid (by rw [e0]; rfl)⟩
    have hadd : (⟨b, l * e, none⟩ : Addr).add (j * e) = ⟨b, (l + j) * e, none⟩ := by
      unfold Addr.add
      rw [Nat.add_mul]
      split
      · rename_i hz; simp [hz]
      · simp
    simp [execOp, Instr.indexAt, e1, e2, asIntOf, run_underlying hT, sizeOf, typeInfo, hinf, hsz, hj, hadd]

theorem vo_index_sub {x i : Operand} {f2 : Bool} {id e l h c : Nat} {T el : TypeId} {k : IntKind} {n : Int} {inf : TypeInfo} (ht : Nat.blt t s.n = true)
    (hx : getO s.env x = .sub id e l h c) (hi : getO s.env i = .pv f2 (.int k n)) (hT : P.underlying T = some (.slice el)) (hinf : P.info? el = some inf) (hsz : inf.size = e)
    (h0 : 0 ≤ n) (hn : n < (h - l : Nat)) (next : VO P C ops rest Q (s.put t (.ptr id e (l + n.toNat) 0))) : VO P C ops (⟨some t, .indexAddr T x i, ty, pos, af, none⟩ :: rest) Q s := vo_pure ht (lt_index_sub hx hi hT hinf hsz h0 hn) next

theorem lt_move_sub {x : Operand} {id e l h c : Nat} (hx : getO s.env x = .sub id e l h c) : Lt P C s ⟨some t, .move x, ty, pos, af, none⟩ (.sub id e l h c) := by rw [← hx]; exact lt_move
theorem lt_assign_sub {x : Operand} {id e l h c : Nat} (hx : getO s.env x = .sub id e l h c) : Lt P C s ⟨some t, .assign x, ty, pos, af, none⟩ (.sub id e l h c) := by rw [← hx]; exact lt_assign
theorem vo_move_sub {x : Operand} {id e l h c : Nat} (ht : Nat.blt t s.n = true) (hx : getO s.env x = .sub id e l h c) (next : VO P C ops rest Q (s.put t (.sub id e l h c))) : VO P C ops (⟨some t, .move x, ty, pos, af, none⟩ :: rest) Q s := vo_pure ht (lt_move_sub hx) next
theorem vo_assign_sub {x : Operand} {id e l h c : Nat} (ht : Nat.blt t s.n = true) (hx : getO s.env x = .sub id e l h c) (next : VO P C ops rest Q (s.put t (.sub id e l h c))) : VO P C ops (⟨some t, .assign x, ty, pos, af, none⟩ :: rest) Q s := vo_pure ht (lt_assign_sub hx) next

theorem run_append_roomR (w : World) (t ty e R : TypeId) (i : TypeInfo) (ht : P.underlying t = some (.slice e)) (hi : P.info? e = some i)
    (g sLen sCap : Nat) (cur : Array Value) (hg : w.heap[g]? = some (.cells cur R (0, 0)))
    (a : Addr) (m c : Nat) (news : List Value) (hl : news.length = m * i.size) (hnews : ∀ j u, news[j]? = some u → w.cell? (a.add j) = some u) (h1 : ∀ u ∈ news, u.oneCell' = true)
    (hroom : sLen + m ≤ sCap) (hfit : sLen * i.size + news.length ≤ cur.size) :
    (Builtin.append_ #[t, t] ty #[.slice (some ⟨g, 0, none⟩) sLen sCap, .slice (some a) m c]).run P w =
      .ok (.slice (some ⟨g, 0, none⟩) (sLen + m) sCap) (w.setRow g (cur.toList.take (sLen * i.size) ++ news ++ cur.toList.drop (sLen * i.size + news.length)).toArray) := by
  have hf := run_firstCells_some (P := P) w i.size m a m c news hl hnews
  have hst := run_storeCells_at P g (sLen * i.size) R news 0 cur w hg (by simpa using hfit) h1
  simp only [Nat.add_zero] at hst
  simp [Builtin.append_, run_underlying ht, sizeOf, typeInfo, hi, Builtin.lenOf, hroom, hf, Addr.add_lit, hst]

/-- 'append(x[:i], x[j:]...)'. -/
theorem vo_append_del {x y : Operand} {id i j n c c' T el R e : Nat} {nl : Option Bool} {fr : Bool} {xs : List PV} {inf : TypeInfo} (ht : Nat.blt t s.n = true) (hnb : C.nb ≤ id)
    (hx : getO s.env x = .sub id e 0 i c) (hy : getO s.env y = .sub id e j n c') (hrow : s.rows[id]? = some (.own R e nl fr xs)) (hn : n = xs.length) (hij : i ≤ j) (hjn : j ≤ n) (hnc : n ≤ c)
    (hT : P.underlying T = some (.slice el)) (hinf : P.info? el = some inf) (hsz : inf.size = e)
    (next : VO P C ops rest Q ⟨s.n, (t, .sub id e 0 (i + (n - j)) c) :: killE id s.env, (s.rows.map (Row.kill id)).set id (.own R e nl fr (xs.take i ++ xs.drop j))⟩) :
    VO P C ops (⟨some t, .call ⟨.builtin .append, #[x, y], #[T, T]⟩, ty, pos, af, none⟩ :: rest) Q s := by
  refine vo_value (s1 := ⟨s.n, killE id s.env, (s.rows.map (Row.kill id)).set id (Row.own R e nl fr (xs.take i ++ xs.drop j))⟩) (sv := .sub id e 0 (i + (n - j)) c) ht (fun m a w hs => ?_) next
  subst hn
  obtain ⟨hvx, hid⟩ := hs.sub hx
  obtain ⟨hvy, _⟩ := hs.sub hy
  have hlid : liveAt s.rows id := ⟨_, hrow, rfl⟩
  have hR := hs.rows id _ hrow
  have hxl : (xs.take i ++ xs.drop j).length = i + (xs.length - j) := by simp; omega
  generalize hmv : m id = mv at *
  cases hR with
  | own v t' e nl fr xs vs hown h1 h2 hw hr =>
  have hvl : vs.length = xs.length * e := hown.1
  rcases hvx with ⟨x0, _, x1, x2, x3⟩ | ⟨b, n0, cap, x0, x1, x2, x3, x4⟩
  · -- nothing is there
    have hxs0 : xs.length = 0 := by
      rcases hown.2 with ⟨_, h⟩ | ⟨g, cap, cur, e0, _⟩
      · exact h
      · rw [show v = Value.slice none 0 0 from x0] at e0; cases e0
    have hxs : xs = [] := List.eq_nil_of_length_eq_zero hxs0
    have hj0 : j = 0 := by omega
    subst hj0
    have hi0 : i = 0 := x1
    subst hi0
    rcases hvy with ⟨_, _, _, _, y3⟩ | ⟨b, n0, cap, y0, _⟩
    · have hg := grown_refl w
      have hmove := hs.moveRow (id := id) hlid hnb (w' := w) (bo := none) (fun b h => by cases h) hg (.own R e nl fr (xs.take 0 ++ xs.drop 0)) (.of v) rfl (fun b hb => .inl (by rw [hmv]; exact hb)) (fun hG => by
        have : xs.take 0 ++ xs.drop 0 = xs := by simp
        rw [this]
        exact .own v R e nl fr xs vs hown h1 h2 hw (fun k y jj c hy hc => let ⟨u, hu, hp⟩ := hr k y jj c hy hc; ⟨u, hu, hp.mono (hG fr)⟩))
      refine ⟨.slice none 0 0, w, _, ?_, hmove, ?_⟩
      · have hyv : a.eval y = .slice none 0 0 := y3
        have hxv : a.eval x = .slice none 0 0 := x3
        simp [execOp, resolve, invoke, builtin, Builtin.append_, hxv, hyv, run_underlying hT, sizeOf, typeInfo, hinf, Builtin.lenOf, Builtin.firstCells]
      · refine .sub id e 0 _ c _ (by simp; exact hid) (.inl ⟨by rw [updM_same]; exact x0, rfl, by omega, x2, rfl⟩)
    · have : v = Value.slice none 0 0 := x0
      have y0 : v = _ := y0
      rw [this] at y0; cases y0
  · have x0 : v = .slice (some ⟨b, 0, none⟩) n0 cap := x0
    rcases hown.2 with ⟨e0, _⟩ | ⟨g, cap', cur, e0, _, hheap, hle, hmx, hcs, htk⟩
    · rw [e0] at x0; cases x0
    · have hbg := x0.symm.trans e0
      injection hbg with q1 q2 q3
      injection q1 with q1
      injection q1 with q1
      subst q1; subst q2; subst q3
      rcases hvy with ⟨y0, _⟩ | ⟨b', n0', cap'', y0, y1, y2, y3, y4⟩
      · have y0 : v = _ := y0
        rw [e0] at y0; cases y0
      · have y0 : v = _ := y0
        have hbg := y0.symm.trans e0
        injection hbg with q1 q2 q3
        injection q1 with q1
        injection q1 with q1
        subst q1; subst q2; subst q3
        have hxv : a.eval x = .slice (some ⟨b', 0, none⟩) i cap'' := by
          rw [x4]
          have : (if cap'' = 0 then (⟨b', 0, none⟩ : Addr) else ⟨b', 0 * e, none⟩) = ⟨b', 0, none⟩ := by split <;> simp
          rw [this]; simp
        let news := vs.drop (j * e)
        have hnl : news.length = (xs.length - j) * e := by simp [news, hvl, Nat.sub_mul]
        have hle2 : xs.length * e ≤ cap'' * e := Nat.mul_le_mul_right e hle
        have hje : j * e ≤ xs.length * e := Nat.mul_le_mul_right e hjn
        have hie : i * e ≤ j * e := Nat.mul_le_mul_right e hij
        have hcell : ∀ q, q < xs.length * e → w.cell? ⟨b', q, none⟩ = vs[q]? := by
          intro q hq
          rw [cell_of_row w b' _ cur R (0, 0) hheap, ← htk, List.getElem?_take, if_pos hq]
          simp
        have hone : ∀ u ∈ news, u.oneCell' = true := by
          intro u hu
          obtain ⟨q, hq⟩ := List.getElem?_of_mem (List.mem_of_mem_drop hu)
          have hq1 : q < xs.length * e := by rw [← hvl]; exact (List.getElem?_eq_some_iff.1 hq).1
          obtain ⟨x9, c9, u9, hx9, hc9, hu9, e9⟩ := cellAt hown hw hq1
          obtain ⟨u8, hu8, hp8⟩ := hr _ x9 _ c9 hx9 hc9
          rw [e9] at hu8
          rw [hq] at hu8
          cases hu8
          exact hp8.oneCell ((hw _ x9 hx9).2 _ c9 hc9)
        have hrun := run_append_roomR (P := P) w T ty el R inf hT hinf b' i cap'' cur hheap (if cap'' = j then ⟨b', 0, none⟩ else ⟨b', j * e, none⟩) (xs.length - j) (cap'' - j) news (by rw [hnl, hsz]) (fun q u hu => by
          have hq : q < news.length := (List.getElem?_eq_some_iff.1 hu).1
          rw [hnl] at hq
          have hne : cap'' ≠ j := by
            intro h9
            have : xs.length - j = 0 := by omega
            rw [this] at hq; omega
          rw [if_neg hne]
          have hadd : (⟨b', j * e, none⟩ : Addr).add q = ⟨b', j * e + q, none⟩ := by
            unfold Addr.add
            split
            · rename_i hz; simp [hz]
            · simp
          have hlt : j * e + q < xs.length * e := by
            have : (xs.length - j) * e = xs.length * e - j * e := Nat.sub_mul ..
            omega
          rw [hadd, hcell _ hlt]
          simpa [news] using hu) hone (by omega) (by rw [hsz, hnl, hcs, ← Nat.add_mul]; exact Nat.mul_le_mul_right e (by omega))
        let cur' := (cur.toList.take (i * inf.size) ++ news ++ cur.toList.drop (i * inf.size + news.length)).toArray
        have hheap' := setRow_heap w b' cur cur' R _ hheap
        have hvs' : (vs.take (i * e) ++ vs.drop (j * e)).length = (xs.take i ++ xs.drop j).length * e := by
          rw [hxl, Nat.add_mul, Nat.sub_mul]
          simp only [List.length_append, List.length_take, List.length_drop, hvl]
          omega
        have hmove := hs.moveRow (id := id) hlid hnb (w' := w.setRow b' cur') (bo := some b') (fun b9 h => by cases h; rw [hmv]; show blk v = some b'; rw [e0]; rfl) (grown_setRow w b' cur') (.own R e nl fr (xs.take i ++ xs.drop j)) (.of (.slice (some ⟨b', 0, none⟩) (i + (xs.length - j)) cap'')) rfl
          (fun b9 hb => .inl (by rw [hmv]; show blk v = some b9; rw [e0]; exact hb)) (fun hG => by
            refine .own _ R e nl fr _ (vs.take (i * e) ++ vs.drop (j * e)) ⟨hvs', .inr ⟨b', cap'', cur', by rw [hxl], Nat.zero_le _, hheap', by rw [hxl]; omega, hmx, ?_, ?_⟩⟩ (fun h => by have := h1 h; rw [e0] at this; cases this) (fun _ h => by cases h) (fun k y hy => ?_) (fun k y jj cc hy hc => ?_)
            · simp only [cur', List.size_toArray, List.length_append, List.length_take, List.length_drop, Array.length_toList, hsz, hnl]
              have : (xs.length - j) * e = xs.length * e - j * e := Nat.sub_mul ..
              omega
            · rw [hxl]
              show List.take _ (cur.toList.take (i * inf.size) ++ news ++ cur.toList.drop (i * inf.size + news.length)) = _
              have hl9 : (cur.toList.take (i * inf.size) ++ news).length = (i + (xs.length - j)) * e := by
                rw [List.length_append, hnl, List.length_take, hsz, Nat.add_mul, Array.length_toList]
                omega
              rw [← hl9, List.take_left', hsz]
              · congr 1
                rw [← htk, List.take_take]
                congr 1
                omega
              · rfl
            · rw [List.getElem?_append] at hy
              split at hy
              · rw [List.getElem?_take] at hy
                split at hy
                · exact hw k y hy
                · cases hy
              · rw [List.getElem?_drop] at hy; exact hw _ y hy
            · have hti : (xs.take i).length = i := by simp; omega
              rw [List.getElem?_append, hti] at hy
              have hvt : (vs.take (i * e)).length = i * e := by rw [List.length_take, hvl]; omega
              split at hy
              · rename_i hki
                rw [List.getElem?_take, if_pos hki] at hy
                have hjj : jj < e := by rw [← (hw k y hy).1]; exact (List.getElem?_eq_some_iff.1 hc).1
                obtain ⟨u, hu, hp⟩ := hr k y jj cc hy hc
                have hlt : k * e + jj < i * e := by
                  have := Nat.mul_le_mul_right e (show k + 1 ≤ i by omega)
                  rw [Nat.add_mul] at this
                  omega
                refine ⟨u, ?_, hp.mono (hG fr)⟩
                rw [List.getElem?_append, hvt, if_pos hlt, List.getElem?_take, if_pos hlt]
                exact hu
              · rename_i hki
                rw [List.getElem?_drop] at hy
                have hjj : jj < e := by rw [← (hw _ y hy).1]; exact (List.getElem?_eq_some_iff.1 hc).1
                obtain ⟨u, hu, hp⟩ := hr _ y jj cc hy hc
                have hge : i * e ≤ k * e := Nat.mul_le_mul_right e (by omega)
                refine ⟨u, ?_, hp.mono (hG fr)⟩
                rw [List.getElem?_append, hvt, if_neg (by omega), List.getElem?_drop]
                rw [← hu]
                congr 1
                have e1 : (j + (k - i)) * e = j * e + (k * e - i * e) := by rw [Nat.add_mul, Nat.sub_mul]
                rw [e1]
                omega)
        refine ⟨.slice (some ⟨b', 0, none⟩) (i + (xs.length - j)) cap'', _, _, ?_, hmove, ?_⟩
        · have hyv : a.eval y = .slice (some (if cap'' = j then ⟨b', 0, none⟩ else ⟨b', j * e, none⟩)) (xs.length - j) (cap'' - j) := y4
          simp only [execOp, resolve, invoke, builtin]
          simp [hxv, hyv, hrun, cur']
        · refine .sub id e 0 _ c _ (by simp; exact hid) (.inr ⟨b', i + (xs.length - j), cap'', by rw [updM_same]; rfl, Nat.zero_le _, by omega, x3, ?_⟩)
          have : (if cap'' = 0 then (⟨b', 0, none⟩ : Addr) else ⟨b', 0 * e, none⟩) = ⟨b', 0, none⟩ := by split <;> simp
          rw [this]; simp

theorem isSub_whole {v u : Value} {e n c : Nat} {w : World} {R : TypeId} {vs : List Value} (h : isSub v e 0 n c u) (hown : w.ownsRow 0 R e v n vs) : u = v := by
  rcases h with ⟨x0, _, _, _, x3⟩ | ⟨b, n0, cap, x0, _, _, _, x4⟩
  · rw [x3, x0]
  · have : (if cap = 0 then (⟨b, 0, none⟩ : Addr) else ⟨b, 0 * e, none⟩) = ⟨b, 0, none⟩ := by split <;> simp
    rw [this, Nat.sub_zero, Nat.sub_zero] at x4
    rcases hown.2 with ⟨e0, _⟩ | ⟨g, cap', cur, e0, _⟩
    · rw [e0] at x0; cases x0
    · rw [x4, x0]
      rw [x0] at e0
      injection e0 with q1 q2 q3
      rw [q2]

/-- A part that is the whole row. -/
theorem vo_unsub {l : List Oper} (u : Nat) {id e n c R : Nat} {nl : Option Bool} {xs : List PV} (hu : look s.env u = .sub id e 0 n c) (hrow : (s.rows[id]?).bind Row.sl = some (R, e, nl, xs)) (hn : n = xs.length)
    (next : VO P C ops l Q ⟨s.n, (u, .ref id) :: s.env, s.rows⟩) : VO P C ops l Q s := by
  intro a w ⟨m, hs⟩
  subst hn
  obtain ⟨⟨vs, hown⟩, hid, _, _⟩ := hs.sl hrow
  refine next a w ⟨m, { hs with env := fun q => ?_ }⟩
  show RS _ _ _ _ (look ((u, .ref id) :: s.env) q) _
  rw [look_cons]
  split
  · rename_i e0
    subst e0
    have hv := hs.env q
    rw [hu] at hv
    generalize a.tmps.getD q undef = x at hv
    cases hv with
    | sub _ _ _ _ _ _ _ hsb => rw [isSub_whole hsb hown]; exact .ref id hid
  · exact hs.env q

/-- A row is cut shorter. -/
theorem vo_cut {l : List Oper} (u : Nat) {id e n c R : Nat} {nl : Option Bool} {fr : Bool} {xs : List PV} (hu : look s.env u = .sub id e 0 n c) (hrow : s.rows[id]? = some (.own R e nl fr xs)) (hnb : C.nb ≤ id) (hn : n ≤ xs.length)
    (next : VO P C ops l Q ⟨s.n, (u, .ref id) :: killE id s.env, (s.rows.map (Row.kill id)).set id (.own R e nl fr (xs.take n))⟩) : VO P C ops l Q s := by
  intro a w ⟨m, hs⟩
  have hlid : liveAt s.rows id := ⟨_, hrow, rfl⟩
  have hid : id < s.rows.length := (List.getElem?_eq_some_iff.1 hrow).1
  have hsb : isSub (m id).v e 0 n c (a.tmps.getD u undef) := by
    have hv := hs.env u
    rw [hu] at hv
    generalize a.tmps.getD u undef = x at hv
    cases hv with
    | sub _ _ _ _ _ _ _ hsb => exact hsb
  have hR := hs.rows id _ hrow
  have hntake : (xs.take n).length = n := by simp; omega
  have key : ∃ v', v' = a.tmps.getD u undef ∧ (∀ b, blk v' = some b → (m id).S b) ∧ ∀ (G : Bool → Nat → Prop) (m2 : Nat → MV) (N2 : Nat), (∀ fr b, Gd C s.rows m w fr b → G fr b ∧ w.heap[b]? = w.heap[b]?) → RowOK w G m2 N2 (.of v') (.own R e nl fr (xs.take n)) := by
    generalize hmv : m id = mv at *
    cases hR with
    | own v t' e nl fr xs vs hown h1 h2 hw hr =>
      have hvl : vs.length = xs.length * e := hown.1
      have hne : n * e ≤ xs.length * e := Nat.mul_le_mul_right e hn
      have hcells : ∀ (G : Bool → Nat → Prop), (∀ fr b, Gd C s.rows m w fr b → G fr b ∧ w.heap[b]? = w.heap[b]?) → ∀ (k : Nat) (y : PV) (jj : Nat) (cc : PV), (xs.take n)[k]? = some y → y.cells[jj]? = some cc → ∃ u, (vs.take (n * e))[k * e + jj]? = some u ∧ RP w (G fr) cc u := by
        intro G hG k y jj cc hy hc
        rw [List.getElem?_take] at hy
        split at hy
        · rename_i hk
          obtain ⟨u, hu, hp⟩ := hr k y jj cc hy hc
          have hjj : jj < e := by rw [← (hw k y hy).1]; exact (List.getElem?_eq_some_iff.1 hc).1
          have hlt : k * e + jj < n * e := by
            have := Nat.mul_le_mul_right e (show k + 1 ≤ n by omega)
            rw [Nat.add_mul] at this
            omega
          exact ⟨u, by rw [List.getElem?_take, if_pos hlt]; exact hu, hp.mono (hG fr)⟩
        · cases hy
      have hfit : ∀ (k : Nat) (y : PV), (xs.take n)[k]? = some y → y.fits e := fun k y hy => by
        rw [List.getElem?_take] at hy
        split at hy
        · exact hw k y hy
        · cases hy
      rcases hsb with ⟨x0, _, x1, _, x3⟩ | ⟨b, n0, cap, x0, _, x1, x2, x4⟩
      · have x0 : v = .slice none 0 0 := x0
        refine ⟨.slice none 0 0, x3.symm, fun b hb => by simp [blk] at hb, fun G m2 N2 hG => ?_⟩
        subst x1
        exact .own _ _ _ nl fr _ (vs.take (0 * e)) ⟨by simp, .inl ⟨rfl, by simp⟩⟩ (fun _ => rfl) (fun h => by have := h2 h; exact (this x0).elim) hfit (hcells G hG)
      · have x0 : v = .slice (some ⟨b, 0, none⟩) n0 cap := x0
        rcases hown.2 with ⟨e0, _⟩ | ⟨g, cap', cur, e0, q0, hheap, hle, hmx, hcs, htk⟩
        · rw [e0] at x0; cases x0
        · have hbg := x0.symm.trans e0
          injection hbg with q1 q2 q3
          injection q1 with q1
          injection q1 with q1
          subst q1; subst q2; subst q3
          have hA : (if cap = 0 then (⟨b, 0, none⟩ : Addr) else ⟨b, 0 * e, none⟩) = ⟨b, 0, none⟩ := by split <;> simp
          rw [hA, Nat.sub_zero, Nat.sub_zero] at x4
          refine ⟨.slice (some ⟨b, 0, none⟩) n cap, x4.symm, fun b9 hb => by show blk v = some b9; rw [e0]; exact hb, fun G m2 N2 hG => ?_⟩
          refine .own _ _ _ nl fr _ (vs.take (n * e)) ⟨by rw [List.length_take, hvl, hntake]; omega, .inr ⟨b, cap, cur, by rw [hntake], q0, hheap, by rw [hntake]; omega, hmx, hcs, ?_⟩⟩ (fun h => by have := h1 h; rw [e0] at this; cases this) (fun _ h => by cases h) hfit (hcells G hG)
          rw [hntake, ← htk, List.take_take]
          congr 1
          omega
  obtain ⟨v', hv', hb, hok⟩ := key
  have hmove := hs.moveRow (id := id) hlid hnb (w' := w) (bo := none) (fun b h => by cases h) (grown_refl w) (.own R e nl fr (xs.take n)) (.of v') rfl (fun b hb9 => .inl (hb b hb9)) (fun hG => hok _ _ _ hG)
  refine next a w ⟨_, { hmove with env := fun q => ?_ }⟩
  show RS _ _ _ _ (look ((u, .ref id) :: killE id s.env) q) _
  rw [look_cons]
  split
  · rename_i e0
    subst e0
    have := RS.ref (w := w) (G := Gd C ((s.rows.map (Row.kill id)).set id (.own R e nl fr (xs.take n))) (updM m id (.of v')) w) (m := updM m id (.of v')) (N := ((s.rows.map (Row.kill id)).set id (Row.own R e nl fr (xs.take n))).length) id (by simpa using hid)
    rw [updM_same] at this
    rw [← hv']
    exact this
  · exact hmove.env q

/-- 'clear' behind a row's end. -/
theorem vo_clearTail {x : Operand} {id lo hi c T el R e by' : Nat} {nl : Option Bool} {fr : Bool} {xs : List PV} {d : PV} (hI : ElInfo P T el e by' d) (hx : getO s.env x = .sub id e lo hi c) (hrow : s.rows[id]? = some (.own R e nl fr xs)) (hlo : xs.length ≤ lo)
    (next : VO P C ops rest Q s) : VO P C ops (⟨none, .call ⟨.builtin .clear, #[x], #[T]⟩, ty, pos, af, none⟩ :: rest) Q s := by
  obtain ⟨hT, ⟨inf, z, hinf, hsz, hbytes, hz, hzs, hzr⟩, hdf, he⟩ := hI
  refine vo_unitV (s1 := s) (fun m a w hs => ?_) next
  obtain ⟨hvx, hid⟩ := hs.sub hx
  have hlid : liveAt s.rows id := ⟨_, hrow, rfl⟩
  by_cases hlh : hi - lo = 0
  · refine ⟨.tuple #[], w, m, ?_, hs⟩
    rcases hvx with ⟨_, _, _, _, x3⟩ | ⟨b, n0, cap, x0, _, _, _, x4⟩
    · simp [execOp, resolve, invoke, builtin, Builtin.clear_, x3, run_underlying hT]
    · rw [hlh] at x4
      simp [execOp, resolve, invoke, builtin, Builtin.clear_, x4, run_underlying hT]
  · have hR := hs.rows id _ hrow
    generalize hmv : m id = mv at *
    cases hR with
    | own v t' e nl fr xs vs hown h1 h2 hw hr =>
      rcases hvx with ⟨_, x1, x2, _, x3⟩ | ⟨b, n0, cap, x0, x1, x2, x3, x4⟩
      · omega
      · have x0 : v = .slice (some ⟨b, 0, none⟩) n0 cap := x0
        rcases hown.2 with ⟨e0, _⟩ | ⟨g, cap', cur, e0, q0, hheap, hle, hmx, hcs, htk⟩
        · rw [e0] at x0; cases x0
        · have hbg := x0.symm.trans e0
          injection hbg with q1 q2 q3
          injection q1 with q1
          injection q1 with q1
          subst q1; subst q2; subst q3
          rw [if_neg (by omega)] at x4
          have hz1 : ∀ u ∈ (Builtin.zeroCells z.cells (hi - lo)).toList, u.oneCell' = true := by
            intro u hu
            simp only [Builtin.zeroCells, Array.toList_map, List.mem_map] at hu
            obtain ⟨q, _, rfl⟩ := hu
            have hzc := (hzr default (fun _ => True)).cells
            have hlt : q % z.cells.size < z.cells.size := Nat.mod_lt _ (by omega)
            have hu : z.cells[q % z.cells.size]? = some z.cells[q % z.cells.size] := Array.getElem?_eq_getElem hlt
            have hd1 : q % z.cells.size < d.cells.length := by rw [← hzc.1]; exact hlt
            obtain ⟨u', hu', hp'⟩ := hzc.2 _ _ (List.getElem?_eq_getElem hd1)
            rw [hu] at hu'
            cases hu'
            rw [getElem!_pos z.cells _ hlt]
            exact hp'.oneCell (hdf.2 _ _ (List.getElem?_eq_getElem hd1))
          have hzl : (Builtin.zeroCells z.cells (hi - lo)).toList.length = (hi - lo) * e := by simp [Builtin.zeroCells, hzs]
          have hle9 : lo * e + (hi - lo) * e ≤ cap * e := by rw [← Nat.add_mul]; exact Nat.mul_le_mul_right e (by omega)
          have hrun := run_storeCells_at P b (lo * e) R (Builtin.zeroCells z.cells (hi - lo)).toList 0 cur w hheap (by rw [hzl]; omega) hz1
          simp only [Nat.add_zero, hzl] at hrun
          let cur' := (cur.toList.take (lo * e) ++ (Builtin.zeroCells z.cells (hi - lo)).toList ++ cur.toList.drop (lo * e + (hi - lo) * e)).toArray
          have hheap' := setRow_heap w b cur cur' R _ hheap
          have hrows : s.rows.set id (.own R e nl fr xs) = s.rows := by
            refine List.ext_getElem? (fun j => ?_)
            rw [List.getElem?_set]
            split
            · rename_i e1; subst e1; exact hrow.symm
            · rfl
          have hfin := hs.storeRow (id := id) hlid (w' := w.setRow b cur') (bo := some b) (fun b9 h => by cases h; rw [hmv]; show blk v = some b; rw [e0]; rfl) (grown_setRow w b cur') (.own R e nl fr xs) (fun hG => by
            rw [hmv]
            refine .own v R e nl fr xs vs ⟨hown.1, .inr ⟨b, cap, cur', e0, q0, hheap', hle, hmx, ?_, ?_⟩⟩ h1 h2 hw (fun k y jj cc hy hc => let ⟨u, hu, hp⟩ := hr k y jj cc hy hc; ⟨u, hu, hp.mono (hG fr)⟩)
            · simp only [cur', List.size_toArray, List.length_append, List.length_take, List.length_drop, Array.length_toList, hzl, hcs]
              omega
            · have hge : xs.length * e ≤ lo * e := Nat.mul_le_mul_right e hlo
              have hl1 : (cur.toList.take (lo * e)).length = lo * e := by rw [List.length_take, Array.length_toList]; omega
              show List.take _ (cur.toList.take (lo * e) ++ (Builtin.zeroCells z.cells (hi - lo)).toList ++ cur.toList.drop (lo * e + (hi - lo) * e)) = _
              rw [List.append_assoc, List.take_append_of_le_length (by omega), List.take_take, Nat.min_eq_left hge]
              exact htk)
          rw [hrows] at hfin
          refine ⟨.tuple #[], _, m, ?_, hfin⟩
          have hnz : (hi - lo) ≠ 0 := hlh
          obtain ⟨q, hq⟩ := Nat.exists_eq_succ_of_ne_zero hlh
          simp only [execOp, resolve, invoke, builtin]
          rw [hq] at x4 hrun
          simp [Builtin.clear_, x4, run_underlying hT, zeroValue, typeInfo, hinf, hz, hrun, cur', hq]
end
end Go.Vl

/- Loops in which some slots and some rows turn; states made plain. -/
namespace Go.Vl
set_option linter.unusedVariables false
set_option linter.unusedSimpArgs false
open Go.RowKit

def setAll : List Row → List Nat → List Row → List Row
  | rows, [], _ => rows
  | rows, _ :: _, [] => rows
  | rows, i :: is, r :: rs => setAll (rows.set i r) is rs

theorem setAll_len : ∀ (is : List Nat) (rows rs : List Row), (setAll rows is rs).length = rows.length
  | [], rows, rs => by cases rs <;> rfl
  | i :: is, rows, [] => rfl
  | i :: is, rows, r :: rs => by
    show (setAll (rows.set i r) is rs).length = _
    rw [setAll_len is]; simp

def pickR (rows : List Row) (ch : List Nat) : List Row := ch.map fun i => (rows[i]?).getD .dead

section
variable {P : Program} {C : Ctx} {Q : Go.Exit → St → Prop} {s : St}

def againE (N : Nat) (Lf Lv ch : List Nat) (k : Nat) (F : List SV) (R : List Row) (I : Nat → List SV → List Row → Prop) (n : Nat) (s' : St) : Prop :=
  again N (Lf ++ Lv) k (fun m us rows => us.take Lf.length = F ∧ ∃ rs, rs.length = ch.length ∧ rows = setAll R ch rs ∧ I m (us.drop Lf.length) rs) n s'

/-- A loop whose slots Lf stay as they are, and all rows but those of ch. -/
theorem vc_loopE {c : Code} (Lf Lv ch : List Nat) (F : List SV) (R : List Row) (I : Nat → List SV → List Row → Prop) (n0 : Nat) (hF : (Lf.map fun t => look s.env t) = F) (hR : s.rows = R) (hnb : C.nb ≤ R.length)
    (hb0 : F.all (SV.bdd R.length) = true ∧ (Lv.map fun t => look s.env t).all (SV.bdd R.length) = true ∧ R.all (Row.bdd R.length) = true) (hself : setAll R ch (pickR R ch) = R)
    (h0 : I n0 (Lv.map fun t => look s.env t) (pickR R ch))
    (hround : ∀ n vs rs, vs.length = Lv.length → rs.length = ch.length → I n vs rs → VC P C c (thn (againE s.n Lf Lv ch R.length F R I n) Q) ⟨s.n, Lf.zip F ++ Lv.zip vs, setAll R ch rs⟩) :
    VC P C (.loop c) Q s := by
  subst hR
  subst hF
  have hl : (Lf.map fun t => look s.env t).length = Lf.length := by simp
  refine vc_loop (Lf ++ Lv) (fun m us rows => us.take Lf.length = (Lf.map fun t => look s.env t) ∧ ∃ rs, rs.length = ch.length ∧ rows = setAll s.rows ch rs ∧ I m (us.drop Lf.length) rs) n0 hnb ⟨?_, hb0.2.2⟩ ⟨?_, pickR s.rows ch, by simp [pickR], hself.symm, ?_⟩ ?_
  · rw [List.map_append, List.all_append, hb0.1, hb0.2.1]; rfl
  · rw [List.map_append]; simp
  · rw [List.map_append, show Lf.length = (Lf.map fun t => look s.env t).length from hl.symm, List.drop_left]; exact h0
  · rintro n vs rows hv - ⟨h1, rs, hrs, rfl, h2⟩
    have hv' : vs.length = Lf.length + Lv.length := by simpa using hv
    have := hround n (vs.drop Lf.length) rs (by simp; omega) hrs h2
    have e : (Lf ++ Lv).zip vs = Lf.zip (Lf.map fun t => look s.env t) ++ Lv.zip (vs.drop Lf.length) := by
      rw [← h1]
      conv => lhs; rw [← List.take_append_drop Lf.length vs]
      exact List.zip_append (by simp; omega)
    rw [e]
    exact this

theorem againE_mk {N : Nat} {Lf Lv ch : List Nat} {k : Nat} {F : List SV} {R : List Row} {I : Nat → List SV → List Row → Prop} {n : Nat} {s' : St} (h0 : Nat.beq s'.n N = true) (h1 : Nat.ble k s'.rows.length = true)
    (h2 : ((Lf ++ Lv).map fun t => look s'.env t).all (SV.bdd k) = true) (h3 : (s'.rows.take k).all (Row.bdd k) = true)
    (hF : (Lf.map fun t => look s'.env t) = F) (hR : s'.rows.take k = setAll R ch (pickR s'.rows ch))
    (h : ∃ n', n' < n ∧ I n' (Lv.map fun t => look s'.env t) (pickR s'.rows ch)) : againE N Lf Lv ch k F R I n s' := by
  refine ⟨⟨Nat.eq_of_beq_eq_true h0, Nat.le_of_ble_eq_true h1, h2, h3⟩, ?_⟩
  obtain ⟨n', hn, hI⟩ := h
  refine ⟨n', hn, ?_, pickR s'.rows ch, by simp [pickR], hR, ?_⟩
  · rw [List.map_append, ← hF]; simp
  · rw [List.map_append, show Lf.length = (Lf.map fun t => look s'.env t).length by simp, List.drop_left]; exact hI
end

section
variable {late : List Nat} {P : Program} {C : Ctx} {Q : Go.Exit → St → Prop} {K : St → Prop} {s s' : St} {ops : Array Oper} {n : Nat} {listed : Array Bool}
theorem vo_stM {l : List Oper} (next : VO P C ops l Q s') (h : s = s' := by (try simp only [St.put, exposeE, killE, SV.expose, SV.kill, Row.expose, Row.kill, rowsAfter_nil, rowsAfter_one, packS, SV.shift, placeOf, enumE, List.zip_cons_cons, List.zip_nil_right, List.map_cons, List.map_nil, List.set_cons_zero, List.set_cons_succ, List.length_cons, List.length_nil, List.cons_append, List.nil_append, List.drop_succ_cons, List.drop_zero, List.drop_nil, List.take_succ_cons, List.take_zero, List.take_nil, List.getElem?_cons_zero, List.getElem?_cons_succ, List.getElem?_nil, Option.getD_some, Option.getD_none, Option.map_some, Option.map_none, Nat.reduceAdd, Nat.reduceSub, Nat.reduceEqDiff, Nat.zero_add, Bool.true_or, PV.scal, Bool.or_false, Bool.or_true, Bool.false_or, Bool.and_true, Bool.and_false, Bool.true_and, reduceIte, reduceCtorEq, SV.kill1, SV.expose1, deadAll, refsOf, List.foldl_cons, List.foldl_nil, takeSV, takeRows, takeP, takePV, setAll, resG, look_cons, Nat.succ.injEq, Nat.add_eq, Nat.mul_one, Nat.mul_zero, Nat.zero_mul, Nat.add_zero, List.map_map, PV.cells, Nat.reduceMul, List.append_nil, Option.some.injEq, Int.toNat_natCast]); exact eq_refl _) : VO P C ops l Q s := vo_st h next
theorem vc_stM {code : Code} (next : VC P C code Q s') (h : s = s' := by (try simp only [St.put, exposeE, killE, SV.expose, SV.kill, Row.expose, Row.kill, rowsAfter_nil, rowsAfter_one, packS, SV.shift, placeOf, enumE, List.zip_cons_cons, List.zip_nil_right, List.map_cons, List.map_nil, List.set_cons_zero, List.set_cons_succ, List.length_cons, List.length_nil, List.cons_append, List.nil_append, List.drop_succ_cons, List.drop_zero, List.drop_nil, List.take_succ_cons, List.take_zero, List.take_nil, List.getElem?_cons_zero, List.getElem?_cons_succ, List.getElem?_nil, Option.getD_some, Option.getD_none, Option.map_some, Option.map_none, Nat.reduceAdd, Nat.reduceSub, Nat.reduceEqDiff, Nat.zero_add, Bool.true_or, PV.scal, Bool.or_false, Bool.or_true, Bool.false_or, Bool.and_true, Bool.and_false, Bool.true_and, reduceIte, reduceCtorEq, SV.kill1, SV.expose1, deadAll, refsOf, List.foldl_cons, List.foldl_nil, takeSV, takeRows, takeP, takePV, setAll, resG, look_cons, Nat.succ.injEq, Nat.add_eq, Nat.mul_one, Nat.mul_zero, Nat.zero_mul, Nat.add_zero, List.map_map, PV.cells, Nat.reduceMul, List.append_nil, Option.some.injEq, Int.toNat_natCast]); exact eq_refl _) : VC P C code Q s := vc_st h next
theorem vd_stM (next : VD P C ops n listed K s') (h : s = s' := by (try simp only [St.put, exposeE, killE, SV.expose, SV.kill, Row.expose, Row.kill, rowsAfter_nil, rowsAfter_one, packS, SV.shift, placeOf, enumE, List.zip_cons_cons, List.zip_nil_right, List.map_cons, List.map_nil, List.set_cons_zero, List.set_cons_succ, List.length_cons, List.length_nil, List.cons_append, List.nil_append, List.drop_succ_cons, List.drop_zero, List.drop_nil, List.take_succ_cons, List.take_zero, List.take_nil, List.getElem?_cons_zero, List.getElem?_cons_succ, List.getElem?_nil, Option.getD_some, Option.getD_none, Option.map_some, Option.map_none, Nat.reduceAdd, Nat.reduceSub, Nat.reduceEqDiff, Nat.zero_add, Bool.true_or, PV.scal, Bool.or_false, Bool.or_true, Bool.false_or, Bool.and_true, Bool.and_false, Bool.true_and, reduceIte, reduceCtorEq, SV.kill1, SV.expose1, deadAll, refsOf, List.foldl_cons, List.foldl_nil, takeSV, takeRows, takeP, takePV, setAll, resG, look_cons, Nat.succ.injEq, Nat.add_eq, Nat.mul_one, Nat.mul_zero, Nat.zero_mul, Nat.add_zero, List.map_map, PV.cells, Nat.reduceMul, List.append_nil, Option.some.injEq, Int.toNat_natCast]); exact eq_refl _) : VD P C ops n listed K s := vd_st h next
theorem vl_stM (next : VL late P C ops n listed K s') (h : s = s' := by (try simp only [St.put, exposeE, killE, SV.expose, SV.kill, Row.expose, Row.kill, rowsAfter_nil, rowsAfter_one, packS, SV.shift, placeOf, enumE, List.zip_cons_cons, List.zip_nil_right, List.map_cons, List.map_nil, List.set_cons_zero, List.set_cons_succ, List.length_cons, List.length_nil, List.cons_append, List.nil_append, List.drop_succ_cons, List.drop_zero, List.drop_nil, List.take_succ_cons, List.take_zero, List.take_nil, List.getElem?_cons_zero, List.getElem?_cons_succ, List.getElem?_nil, Option.getD_some, Option.getD_none, Option.map_some, Option.map_none, Nat.reduceAdd, Nat.reduceSub, Nat.reduceEqDiff, Nat.zero_add, Bool.true_or, PV.scal, Bool.or_false, Bool.or_true, Bool.false_or, Bool.and_true, Bool.and_false, Bool.true_and, reduceIte, reduceCtorEq, SV.kill1, SV.expose1, deadAll, refsOf, List.foldl_cons, List.foldl_nil, takeSV, takeRows, takeP, takePV, setAll, resG, look_cons, Nat.succ.injEq, Nat.add_eq, Nat.mul_one, Nat.mul_zero, Nat.zero_mul, Nat.add_zero, List.map_map, PV.cells, Nat.reduceMul, List.append_nil, Option.some.injEq, Int.toNat_natCast]); exact eq_refl _) : VL late P C ops n listed K s := vl_st h next
theorem vc_agpv {code : Code} (u : Nat) {cs : List SV} {f : Bool} {ps : List PV} (hu : look s.env u = .ag cs) (hc : collectC cs = some (f, ps))
    (next : VC P C code Q ⟨s.n, (u, .pv f (.agg ps)) :: s.env, s.rows⟩) : VC P C code Q s := by
  intro a w ⟨m, hs⟩
  refine next a w ⟨m, { hs with env := fun v => ?_ }⟩
  show RS _ _ _ _ (look ((u, .pv f (.agg ps)) :: s.env) v) _
  rw [look_cons]
  split
  · rename_i e
    subst e
    have hv := hs.env v
    rw [hu] at hv
    obtain ⟨c1, c2⟩ := collectC_get hc
    generalize a.tmps.getD v undef = x at hv
    cases hv with
    | ag _ us hl h h1 =>
      refine .pv _ _ _ (.agg ps us (by rw [hl, c1]) (fun j p hp => ?_) (fun j p u hp hu => ?_))
      · obtain ⟨g, h3, _⟩ := c2 j p hp
        have hlt : j < us.size := by rw [hl]; exact (List.getElem?_eq_some_iff.1 h3).1
        have hu := Array.getElem?_eq_getElem hlt
        exact (h _ _ _ h3 hu).pv_inv.notAgg (h1 _ _ hu)
      · obtain ⟨g, h3, h4⟩ := c2 j p hp
        exact RP.flag (G := Gd C s.rows m w) (fun b hb => hb.weak) (h _ _ _ h3 hu).pv_inv h4
  · exact hs.env v

/-- A call that makes rows, in a statement with operations that write, when nothing else can come next. -/
theorem vl_callR (i : Nat) (bs : List Nat) (hbs : bs = []) {brows : List Row} {t : Nat} {ty : TypeId} {pos : String} {af : Array Edge} {gd : Option (Nat × Bool)} {f : FuncId} {fn : Func} {xs : Array Operand} {Ts : Array TypeId} {args : List SV} {R : List SV → List Row → Prop}
    (hi : ops[i]? = some ⟨some t, .call ⟨.value (.func f), xs, Ts⟩, ty, pos, af, gd⟩) (hr : Region.ready .any ops listed = [i]) (hw : Wnt C ops s ⟨some t, .call ⟨.value (.func f), xs, Ts⟩, ty, pos, af, gd⟩ true)
    (hf : P.funcs[f]? = some fn) (hnm : (fn.name == "runtime.NumGoroutine") = false) (hbd : fn.body.isNone = false) (ht : Nat.blt t s.n = true)
    (hargs : (xs.toList.map (getO s.env)).mapM (argOfB bs s.rows) = some args) (hsat : SatAt P f args brows R)
    (hb1 : bs.map (fun id => (s.rows[id]?).map Row.toArg) = brows.map some) (hb2 : brows.all Row.live = true) (hb3 : bs.map (placeOf bs) = (List.range bs.length).map some)
    (next : ∀ res rows', R res rows' → bs.length ≤ rows'.length ∧ (res.all SV.noTup = true ∧ rows'.all (Row.bdd 0) = true ∧ (rows'.take bs.length).all Row.live = true ∧ rows'.all Row.noGh = true) ∧
      (((xs.toList.map (getO s.env)).any (SV.isKept bs) = false) ∨ (res.all SV.fresh = true ∧ rows'.all Row.fresh = true)) ∧
      VL late P C ops n (listed.setIfInBounds i true) K ⟨s.n, (t, packS (res.map (SV.shift bs s.rows.length))) :: s.env, rowsAfter bs s.rows rows'⟩) :
    VL late P C ops (n + 1) listed K s := by
  intro m a w hs
  refine ⟨fun h => (by rw [hr] at h; cases h), fun j hj => ?_⟩
  rw [hr] at hj
  simp at hj
  subst hj
  unfold wpOp
  simp only [hi]
  rw [if_pos (hw m a w hs)]
  left
  exact ow_callR bs hbs hs hf hnm hbd ht hargs hsat hb1 hb2 hb3 (fun res rows' hR => let ⟨h1, h2, h3, h4⟩ := next res rows' hR; ⟨h1, h2, h3, fun m' a' w' hx hs' => ⟨.inl hx, h4 m' a' w' hs'⟩⟩)
end
end Go.Vl

/- The way into a function, and what it hands back: values, structs, and rows of its own. -/
namespace Go.Vl
set_option linter.unusedVariables false
set_option linter.unusedSimpArgs false
open Go.RowKit

def retQ (C : Ctx) (rs : List (Nat × Option (Nat × Nat))) (R : List SV → List Row → Prop) (e : Go.Exit) (s : St) : Prop :=
  (e = .normal ∨ e = .ret) ∧ rs.all (resGOK s) = true ∧ ∃ res rows', res.length = rs.length ∧ Hands C (List.range rs.length) res rows' ⟨rs.length, enumE 0 (rs.map (resG s)), s.rows⟩ ∧ R res rows'

section
variable {P : Program}

theorem sat_entry_G {f : FuncId} {fn : Func} {c : Code} {args : List SV} {rows : List Row} {R : List SV → List Row → Prop} {rs : List (Nat × Option (Nat × Nat))} (hf : P.funcs[f]? = some fn) (hb : fn.body = some c)
    (hr : fn.results = (rs.map resVar).toArray) (hl : rs.length ≤ 5) (hn : args.length ≤ fn.ntmps) (hT : ∀ r ∈ rs, resT P r)
    (h : ∀ C : Ctx, C.nb = rows.length → VC P C c (retQ C rs R) ⟨fn.ntmps, enumE 0 args, rows⟩) : SatAt P f args rows R := by
  intro C m vals hnb hA hv hs
  refine calls_of_wp hf hb ?_
  have hs2 : SimM C ⟨fn.ntmps, enumE 0 args, rows⟩ m { tmps := vals ++ Array.replicate (fn.ntmps - vals.size) undef, defers := [] } C.w0 := by
    refine { hs with size := ?_, env := fun t => ?_, defs := rfl }
    · simp; omega
    · have := hs.env t
      show RS _ _ _ _ (look (enumE 0 args) t) _
      change RS _ _ _ _ (look (enumE 0 args) t) _ at this
      by_cases ht : t < vals.size
      · have e : (vals ++ Array.replicate (fn.ntmps - vals.size) undef).getD t undef = vals.getD t undef := by
          simp [Array.getD, ht]
          intro hh; omega
        rw [e]
        exact this
      · have e : look (enumE 0 args) t = .any := by
          rw [look_enumE]
          simp
          rw [List.getElem?_eq_none (by omega)]
          rfl
        rw [e]
        exact .any _
  refine wp_mono (h C hnb _ _ ⟨m, hs2⟩) ?_
  rintro e a w' ⟨s', ⟨m', hs'⟩, he, hok, res, rows', hlen, hh, hR⟩
  obtain ⟨us, hrun, hul, hus⟩ := run_resGA (P := P) hs' hr hl hT hok
  have hs3 : SimM C ⟨rs.length, enumE 0 (rs.map (resG s')), s'.rows⟩ m' ⟨us, []⟩ w' := { hs' with
    defs := rfl
    size := hul
    env := fun t => by
      show RS _ _ _ _ (look (enumE 0 (rs.map (resG s'))) t) _
      rw [look_enumE]
      simp only [Nat.zero_le, if_true, Nat.sub_zero]
      rcases Nat.lt_or_ge t rs.length with ht | ht
      · simp only [List.getElem?_map, List.getElem?_eq_getElem ht, Option.map_some, Option.getD_some]
        exact hus t _ (List.getElem?_eq_getElem ht)
      · simp only [List.getElem?_map, List.getElem?_eq_none ht, Option.map_none, Option.getD_none]
        exact .any _ }
  obtain ⟨m2, hm2⟩ := hh m' _ w' hs3
  have hts : ((List.range rs.length).map fun t => us.getD t undef).toArray = us := by
    apply Array.ext_getElem?
    intro i
    simp only [List.getElem?_toArray, List.getElem?_map]
    rcases Nat.lt_or_ge i rs.length with hi | hi
    · rw [List.getElem?_range hi, Array.getElem?_eq_getElem (by omega)]
      simp [Array.getD, show i < us.size by omega]
    · rw [List.getElem?_eq_none (by simpa using hi), Array.getElem?_eq_none (by omega)]
      rfl
  have key : ∃ v, (results fn a.tmps).run P w' = .ok v w' ∧ (∃ (us : Array Value) (res : List SV) (rows' : List Row) (m' : Nat → MV), Ending.returned v = .returned (pack us) ∧ us.size = res.length ∧
      SimM C ⟨us.size, enumE 0 res, rows'⟩ m' ⟨us, []⟩ w' ∧ R res rows') := by
    refine ⟨_, hrun, us, res, rows', m2, rfl, by rw [hul, hlen], ?_, hR⟩
    change SimM C ⟨_, _, _⟩ m2 ⟨((List.range rs.length).map fun t => us.getD t undef).toArray, []⟩ w' at hm2
    rw [hts] at hm2
    rw [hul]
    simpa using hm2
  obtain ⟨v, hv1, hv2⟩ := key
  rcases he with rfl | rfl
  · exact ⟨hs'.defs, v, hv1, hv2⟩
  · exact ⟨hs'.defs, v, hv1, hv2⟩

theorem retQ_sel {C : Ctx} {rs : List (Nat × Option (Nat × Nat))} {R : List SV → List Row → Prop} {s : St} {e : Go.Exit} {k : Nat} (sel : List Nat) {srows : List Row} (he : e = .normal ∨ e = .ret) (hnb : C.nb = k) (hok : rs.all (resGOK s) = true) (hkl : Nat.ble k s.rows.length = true)
    (h3 : sel.map (placeOf sel) = (List.range sel.length).map some) (hsr : sel.map (fun id => s.rows[id]?) = srows.map some) (hge : sel.all (fun id => Nat.ble k id) = true) (hb1 : (s.rows.take k).all (Row.bdd k) = true) (hb2 : srows.all (Row.bdd 0) = true)
    (hR : R ((List.range rs.length).map fun t => renS k sel (look (enumE 0 (rs.map (resG s))) t)) (s.rows.take k ++ srows)) : retQ C rs R e s :=
  ⟨he, hok, _, _, by simp, hands_sel (s := ⟨rs.length, enumE 0 (rs.map (resG s)), s.rows⟩) (ts := List.range rs.length) sel hnb hkl h3 hsr hge hb1 hb2, hR⟩
end
end Go.Vl

/- A field of an element of a row is written. -/
namespace Go.Vl
set_option linter.unusedVariables false
set_option linter.unusedSimpArgs false
open Go.RowKit
section
variable {P : Program} {C : Ctx} {Q : Go.Exit → St → Prop} {s : St} {ops : Array Oper} {rest : List Oper} {t : Nat} {ty : TypeId} {pos : String} {af : Array Edge}

theorem vo_store_ownC {x y : Operand} {T id R e i o : Nat} {nl : Option Bool} {fr f : Bool} {xs cs : List PV} {c : PV} {inf : TypeInfo} (hx : getO s.env x = .ptr id e i o) (hrow : s.rows[id]? = some (.own R e nl fr xs))
    (hy : getO s.env y = .pv f c) (hna : c.isAgg = false) (hinf : P.info? T = some inf) (hsz : inf.size = 1) (hget : xs[i]? = some (.agg cs)) (ho : Nat.blt o e = true)
    (next : VO P C ops rest Q ⟨s.n, s.env, s.rows.set id (.own R e nl (fr && (f || c.scal)) (xs.set i (.agg (cs.set o c))))⟩) :
    VO P C ops (⟨none, .store T x y, ty, pos, af, none⟩ :: rest) Q s := by
  refine vo_unit (s1 := { s with rows := s.rows.set id (.own R e nl (fr && (f || c.scal)) (xs.set i (.agg (cs.set o c)))) }) (fun m a w hs => ?_) next
  obtain ⟨b, hv, hb, hid⟩ := hs.ptr hx
  have ho := blt_lt ho
  have hvy := hs.get y
  rw [hy] at hvy
  have hvy := hvy.pv_inv
  have hone := hvy.oneCell hna
  have hlive : liveAt s.rows id := ⟨_, hrow, rfl⟩
  have hi : i < xs.length := (List.getElem?_eq_some_iff.1 hget).1
  have hR := hs.rows id _ hrow
  generalize hmv : m id = v at *
  cases hR with
  | own v t' e nl fr xs vs hown h1 h2 hw hr =>
    have hvl : vs.length = xs.length * e := hown.1
    have hf := hw i _ hget
    have hcl : cs.length = e := hf.1
    rcases hown.2 with ⟨rfl, hn0⟩ | ⟨g, cap, cur, rfl, _, hh, hle, hmx, hcs, htk⟩
    · omega
    · simp only [MV.of, blk, Option.some.injEq] at hb
      have hgb : b = g := hb.symm
      subst hgb
      have hlt : i * e + o < xs.length * e := by
        have := Nat.mul_le_mul_right e (show i + 1 ≤ xs.length by omega)
        rw [Nat.add_mul] at this
        omega
      have hle2 : xs.length * e ≤ cap * e := Nat.mul_le_mul_right e hle
      have hcur : i * e + o < cur.size := by omega
      have hcell : w.cell? ⟨b, i * e + o, none⟩ = some cur[i * e + o] := by
        rw [cell_of_row w b _ cur R (0, 0) hh]; exact Array.getElem?_eq_getElem hcur
      have hfz : w.frozen? ⟨b, i * e + o, none⟩ = false := by simp [World.frozen?, hh]
      have hcells : (a.eval y).cells.toList = [a.eval y] := oneCell_cells hone
      have hcs1 : (a.eval y).cells.size = 1 := by
        have := congrArg List.length hcells
        simpa using this
      let w' := w.setCell ⟨b, i * e + o, none⟩ (a.eval y)
      have hst : (store (⟨b, i * e + o, none⟩ : Addr) (a.eval y)).run P w = .ok () w' := by
        rw [run_store P w _ _ _ hone, hcell]
        simp [hfz, w']
      have hheap' : w'.heap[b]? = some (.cells (cur.setIfInBounds (i * e + o) (a.eval y)) R (0, 0)) := heap_setCell_same w b (i * e + o) cur R _ hh
      have hg : w.grownBy w' (some b) := ⟨rfl, rfl, rfl, by simp [w', World.setCell], fun k _ hk => heap_setCell_other w ⟨b, i * e + o, none⟩ k _ (fun e => hk (by rw [e]))⟩
      refine ⟨w', m, ?_, ?_⟩
      · have hadd : (⟨b, i * e + o, none⟩ : Addr).add 0 = ⟨b, i * e + o, none⟩ := rfl
        simp [execOp, Instr.storeAt, hv, Instr.sureAddr, storeVar, sizeOf, typeInfo, hinf, hsz, hcs1, hcells, storeCells, hadd, hst]
      · refine hs.storeRow hlive (fun b' e => by cases e; rw [hmv]; rfl) hg _ (fun hG => ?_)
        rw [hmv]
        have hcomb : ∀ b, Gd C s.rows m w fr b → Gd C s.rows m w (fr && (f || c.scal)) b := by
          intro b hb
          cases hf1 : fr && (f || c.scal) with
          | false => exact hb.weak
          | true => simp only [Bool.and_eq_true] at hf1; rw [hf1.1] at hb; exact hb
        refine .own _ R e nl _ (xs.set i (.agg (cs.set o c))) (vs.set (i * e + o) (a.eval y)) ⟨by simp [hvl], .inr ⟨b, cap, _, by rw [List.length_set], Nat.zero_le _, hheap', by rw [List.length_set]; exact hle, hmx, by simp [hcs], ?_⟩⟩
          (fun h => by have := h1 h; simp at this) (fun _ h => by cases h) (fun k x hx => ?_) (fun k x j c' hx hc => ?_)
        · rw [List.length_set, Array.toList_setIfInBounds, List.take_set, htk]
        · rw [List.getElem?_set] at hx
          split at hx
          · cases hx
            refine ⟨by show (cs.set o c).length = e; simp [hcl], fun j c' hc' => ?_⟩
            change (cs.set o c)[j]? = some c' at hc'
            rw [List.getElem?_set] at hc'
            split at hc'
            · split at hc'
              · cases hc'; exact hna
              · cases hc'
            · exact hf.2 j c' hc'
          · exact hw k x hx
        · rw [List.getElem?_set] at hx
          split at hx
          · rename_i e1
            subst e1
            cases hx
            change (cs.set o c)[j]? = some c' at hc
            rw [List.getElem?_set] at hc
            split at hc
            · rename_i e2
              subst e2
              have hc : c = c' := by
                split at hc
                · cases hc; rfl
                · cases hc
              subst hc
              refine ⟨a.eval y, by rw [List.getElem?_set_self (by omega)], ?_⟩
              by_cases hsc : c.scal = true
              · exact hvy.scal_any hsc
              · refine hvy.mono fun b' hb' => hG _ _ ?_
                have hsc : c.scal = false := by simpa using hsc
                rw [hsc, Bool.or_false]
                cases fr with
                | false => exact hb'.weak
                | true => exact hb'
            · rename_i e2
              obtain ⟨u, hu, hp⟩ := hr i _ j c' hget hc
              have hjl : j < e := by rw [← hcl]; exact (List.getElem?_eq_some_iff.1 hc).1
              exact ⟨u, by rw [List.getElem?_set_ne (by omega)]; exact hu, hp.mono fun b' hb' => hG _ _ (hcomb _ hb')⟩
          · rename_i e1
            obtain ⟨u, hu, hp⟩ := hr k x j c' hx hc
            have hjl : j < e := by rw [← (hw k x hx).1]; exact (List.getElem?_eq_some_iff.1 hc).1
            have hne : i * e + o ≠ k * e + j := by
              intro h9
              have e2 : (i * e + o) / e = (k * e + j) / e := by rw [h9]
              rw [Nat.mul_comm i e, Nat.mul_comm k e, Nat.mul_add_div (by omega), Nat.mul_add_div (by omega), Nat.div_eq_of_lt hjl, Nat.div_eq_of_lt ho] at e2
              omega
            exact ⟨u, by rw [List.getElem?_set_ne hne]; exact hu, hp.mono fun b' hb' => hG _ _ (hcomb _ hb')⟩
end
end Go.Vl

/- The facts on the types of this translation that the rules ask for. -/
namespace Go.Vl
set_option linter.unusedVariables false
set_option linter.unusedSimpArgs false
open Go.Proofs
noncomputable def ti3 : TypeInfo := (Try.prog.info? 3).getD default
theorem inf3 : Try.prog.info? 3 = some ti3 := by kernel_rfl
theorem sz3 : ti3.size = 1 := by kernel_rfl
theorem by3 : ti3.bytes = 8 := by kernel_rfl
noncomputable def ti4 : TypeInfo := (Try.prog.info? 4).getD default
theorem inf4 : Try.prog.info? 4 = some ti4 := by kernel_rfl
theorem sz4 : ti4.size = 1 := by kernel_rfl
theorem by4 : ti4.bytes = 1 := by kernel_rfl
noncomputable def ti5 : TypeInfo := (Try.prog.info? 5).getD default
theorem inf5 : Try.prog.info? 5 = some ti5 := by kernel_rfl
theorem sz5 : ti5.size = 1 := by kernel_rfl
theorem by5 : ti5.bytes = 1 := by kernel_rfl
noncomputable def ti22 : TypeInfo := (Try.prog.info? 22).getD default
theorem inf22 : Try.prog.info? 22 = some ti22 := by kernel_rfl
theorem sz22 : ti22.size = 1 := by kernel_rfl
theorem by22 : ti22.bytes = 24 := by kernel_rfl
noncomputable def ti24 : TypeInfo := (Try.prog.info? 24).getD default
theorem inf24 : Try.prog.info? 24 = some ti24 := by kernel_rfl
theorem sz24 : ti24.size = 1 := by kernel_rfl
theorem by24 : ti24.bytes = 24 := by kernel_rfl
noncomputable def ti31 : TypeInfo := (Try.prog.info? 31).getD default
theorem inf31 : Try.prog.info? 31 = some ti31 := by kernel_rfl
theorem sz31 : ti31.size = 1 := by kernel_rfl
theorem by31 : ti31.bytes = 24 := by kernel_rfl
noncomputable def ti36 : TypeInfo := (Try.prog.info? 36).getD default
theorem inf36 : Try.prog.info? 36 = some ti36 := by kernel_rfl
theorem sz36 : ti36.size = 1 := by kernel_rfl
theorem by36 : ti36.bytes = 24 := by kernel_rfl
noncomputable def ti43 : TypeInfo := (Try.prog.info? 43).getD default
theorem inf43 : Try.prog.info? 43 = some ti43 := by kernel_rfl
theorem sz43 : ti43.size = 1 := by kernel_rfl
theorem by43 : ti43.bytes = 24 := by kernel_rfl
noncomputable def ti45 : TypeInfo := (Try.prog.info? 45).getD default
theorem inf45 : Try.prog.info? 45 = some ti45 := by kernel_rfl
theorem sz45 : ti45.size = 2 := by kernel_rfl
theorem by45 : ti45.bytes = 48 := by kernel_rfl
noncomputable def ti48 : TypeInfo := (Try.prog.info? 48).getD default
theorem inf48 : Try.prog.info? 48 = some ti48 := by kernel_rfl
theorem sz48 : ti48.size = 1 := by kernel_rfl
theorem by48 : ti48.bytes = 24 := by kernel_rfl
noncomputable def ti50 : TypeInfo := (Try.prog.info? 50).getD default
theorem inf50 : Try.prog.info? 50 = some ti50 := by kernel_rfl
theorem sz50 : ti50.size = 2 := by kernel_rfl
theorem by50 : ti50.bytes = 48 := by kernel_rfl
noncomputable def ti54 : TypeInfo := (Try.prog.info? 54).getD default
theorem inf54 : Try.prog.info? 54 = some ti54 := by kernel_rfl
theorem sz54 : ti54.size = 1 := by kernel_rfl
theorem by54 : ti54.bytes = 24 := by kernel_rfl
noncomputable def ti55 : TypeInfo := (Try.prog.info? 55).getD default
theorem inf55 : Try.prog.info? 55 = some ti55 := by kernel_rfl
theorem sz55 : ti55.size = 1 := by kernel_rfl
theorem by55 : ti55.bytes = 24 := by kernel_rfl
noncomputable def ti57 : TypeInfo := (Try.prog.info? 57).getD default
theorem inf57 : Try.prog.info? 57 = some ti57 := by kernel_rfl
theorem sz57 : ti57.size = 3 := by kernel_rfl
theorem by57 : ti57.bytes = 72 := by kernel_rfl
noncomputable def ti60 : TypeInfo := (Try.prog.info? 60).getD default
theorem inf60 : Try.prog.info? 60 = some ti60 := by kernel_rfl
theorem sz60 : ti60.size = 4 := by kernel_rfl
theorem by60 : ti60.bytes = 32 := by kernel_rfl
noncomputable def ti62 : TypeInfo := (Try.prog.info? 62).getD default
theorem inf62 : Try.prog.info? 62 = some ti62 := by kernel_rfl
theorem sz62 : ti62.size = 1 := by kernel_rfl
theorem by62 : ti62.bytes = 24 := by kernel_rfl
noncomputable def ti63 : TypeInfo := (Try.prog.info? 63).getD default
theorem inf63 : Try.prog.info? 63 = some ti63 := by kernel_rfl
theorem sz63 : ti63.size = 1 := by kernel_rfl
theorem by63 : ti63.bytes = 24 := by kernel_rfl
noncomputable def ti65 : TypeInfo := (Try.prog.info? 65).getD default
theorem inf65 : Try.prog.info? 65 = some ti65 := by kernel_rfl
theorem sz65 : ti65.size = 3 := by kernel_rfl
theorem by65 : ti65.bytes = 72 := by kernel_rfl
noncomputable def ti73 : TypeInfo := (Try.prog.info? 73).getD default
theorem inf73 : Try.prog.info? 73 = some ti73 := by kernel_rfl
theorem sz73 : ti73.size = 3 := by kernel_rfl
theorem by73 : ti73.bytes = 24 := by kernel_rfl
noncomputable def ti84 : TypeInfo := (Try.prog.info? 84).getD default
theorem inf84 : Try.prog.info? 84 = some ti84 := by kernel_rfl
theorem sz84 : ti84.size = 1 := by kernel_rfl
theorem by84 : ti84.bytes = 24 := by kernel_rfl
noncomputable def ti88 : TypeInfo := (Try.prog.info? 88).getD default
theorem inf88 : Try.prog.info? 88 = some ti88 := by kernel_rfl
theorem sz88 : ti88.size = 2 := by kernel_rfl
theorem by88 : ti88.bytes = 32 := by kernel_rfl
noncomputable def ti90 : TypeInfo := (Try.prog.info? 90).getD default
theorem inf90 : Try.prog.info? 90 = some ti90 := by kernel_rfl
theorem sz90 : ti90.size = 3 := by kernel_rfl
theorem by90 : ti90.bytes = 40 := by kernel_rfl
noncomputable def ti94 : TypeInfo := (Try.prog.info? 94).getD default
theorem inf94 : Try.prog.info? 94 = some ti94 := by kernel_rfl
theorem sz94 : ti94.size = 2 := by kernel_rfl
theorem by94 : ti94.bytes = 16 := by kernel_rfl
noncomputable def ti107 : TypeInfo := (Try.prog.info? 107).getD default
theorem inf107 : Try.prog.info? 107 = some ti107 := by kernel_rfl
theorem sz107 : ti107.size = 1 := by kernel_rfl
theorem by107 : ti107.bytes = 24 := by kernel_rfl
noncomputable def ti116 : TypeInfo := (Try.prog.info? 116).getD default
theorem inf116 : Try.prog.info? 116 = some ti116 := by kernel_rfl
theorem sz116 : ti116.size = 1 := by kernel_rfl
theorem by116 : ti116.bytes = 24 := by kernel_rfl
noncomputable def ti118 : TypeInfo := (Try.prog.info? 118).getD default
theorem inf118 : Try.prog.info? 118 = some ti118 := by kernel_rfl
theorem sz118 : ti118.size = 2 := by kernel_rfl
theorem by118 : ti118.bytes = 32 := by kernel_rfl
noncomputable def ti128 : TypeInfo := (Try.prog.info? 128).getD default
theorem inf128 : Try.prog.info? 128 = some ti128 := by kernel_rfl
theorem sz128 : ti128.size = 2 := by kernel_rfl
theorem by128 : ti128.bytes = 16 := by kernel_rfl
noncomputable def ti150 : TypeInfo := (Try.prog.info? 150).getD default
theorem inf150 : Try.prog.info? 150 = some ti150 := by kernel_rfl
theorem sz150 : ti150.size = 2 := by kernel_rfl
theorem by150 : ti150.bytes = 32 := by kernel_rfl
noncomputable def ti156 : TypeInfo := (Try.prog.info? 156).getD default
theorem inf156 : Try.prog.info? 156 = some ti156 := by kernel_rfl
theorem sz156 : ti156.size = 1 := by kernel_rfl
theorem by156 : ti156.bytes = 24 := by kernel_rfl
noncomputable def ti158 : TypeInfo := (Try.prog.info? 158).getD default
theorem inf158 : Try.prog.info? 158 = some ti158 := by kernel_rfl
theorem sz158 : ti158.size = 1 := by kernel_rfl
theorem by158 : ti158.bytes = 24 := by kernel_rfl
noncomputable def ti160 : TypeInfo := (Try.prog.info? 160).getD default
theorem inf160 : Try.prog.info? 160 = some ti160 := by kernel_rfl
theorem sz160 : ti160.size = 2 := by kernel_rfl
theorem by160 : ti160.bytes = 32 := by kernel_rfl
noncomputable def ti167 : TypeInfo := (Try.prog.info? 167).getD default
theorem inf167 : Try.prog.info? 167 = some ti167 := by kernel_rfl
theorem sz167 : ti167.size = 1 := by kernel_rfl
theorem by167 : ti167.bytes = 24 := by kernel_rfl
noncomputable def ti169 : TypeInfo := (Try.prog.info? 169).getD default
theorem inf169 : Try.prog.info? 169 = some ti169 := by kernel_rfl
theorem sz169 : ti169.size = 1 := by kernel_rfl
theorem by169 : ti169.bytes = 24 := by kernel_rfl
noncomputable def ti171 : TypeInfo := (Try.prog.info? 171).getD default
theorem inf171 : Try.prog.info? 171 = some ti171 := by kernel_rfl
theorem sz171 : ti171.size = 2 := by kernel_rfl
theorem by171 : ti171.bytes = 32 := by kernel_rfl
noncomputable def ti178 : TypeInfo := (Try.prog.info? 178).getD default
theorem inf178 : Try.prog.info? 178 = some ti178 := by kernel_rfl
theorem sz178 : ti178.size = 0 := by kernel_rfl
theorem by178 : ti178.bytes = 0 := by kernel_rfl
noncomputable def ti180 : TypeInfo := (Try.prog.info? 180).getD default
theorem inf180 : Try.prog.info? 180 = some ti180 := by kernel_rfl
theorem sz180 : ti180.size = 4 := by kernel_rfl
theorem by180 : ti180.bytes = 32 := by kernel_rfl
noncomputable def ti182 : TypeInfo := (Try.prog.info? 182).getD default
theorem inf182 : Try.prog.info? 182 = some ti182 := by kernel_rfl
theorem sz182 : ti182.size = 4 := by kernel_rfl
theorem by182 : ti182.bytes = 32 := by kernel_rfl
noncomputable def ti183 : TypeInfo := (Try.prog.info? 183).getD default
theorem inf183 : Try.prog.info? 183 = some ti183 := by kernel_rfl
theorem sz183 : ti183.size = 4 := by kernel_rfl
theorem by183 : ti183.bytes = 32 := by kernel_rfl
noncomputable def ti185 : TypeInfo := (Try.prog.info? 185).getD default
theorem inf185 : Try.prog.info? 185 = some ti185 := by kernel_rfl
theorem sz185 : ti185.size = 4 := by kernel_rfl
theorem by185 : ti185.bytes = 32 := by kernel_rfl
noncomputable def ti186 : TypeInfo := (Try.prog.info? 186).getD default
theorem inf186 : Try.prog.info? 186 = some ti186 := by kernel_rfl
theorem sz186 : ti186.size = 4 := by kernel_rfl
theorem by186 : ti186.bytes = 32 := by kernel_rfl
noncomputable def ti198 : TypeInfo := (Try.prog.info? 198).getD default
theorem inf198 : Try.prog.info? 198 = some ti198 := by kernel_rfl
theorem sz198 : ti198.size = 1 := by kernel_rfl
theorem by198 : ti198.bytes = 24 := by kernel_rfl
noncomputable def ti200 : TypeInfo := (Try.prog.info? 200).getD default
theorem inf200 : Try.prog.info? 200 = some ti200 := by kernel_rfl
theorem sz200 : ti200.size = 2 := by kernel_rfl
theorem by200 : ti200.bytes = 32 := by kernel_rfl
noncomputable def ti202 : TypeInfo := (Try.prog.info? 202).getD default
theorem inf202 : Try.prog.info? 202 = some ti202 := by kernel_rfl
theorem sz202 : ti202.size = 2 := by kernel_rfl
theorem by202 : ti202.bytes = 16 := by kernel_rfl
noncomputable def ti208 : TypeInfo := (Try.prog.info? 208).getD default
theorem inf208 : Try.prog.info? 208 = some ti208 := by kernel_rfl
theorem sz208 : ti208.size = 3 := by kernel_rfl
theorem by208 : ti208.bytes = 24 := by kernel_rfl
noncomputable def ti219 : TypeInfo := (Try.prog.info? 219).getD default
theorem inf219 : Try.prog.info? 219 = some ti219 := by kernel_rfl
theorem sz219 : ti219.size = 2 := by kernel_rfl
theorem by219 : ti219.bytes = 16 := by kernel_rfl
noncomputable def ti225 : TypeInfo := (Try.prog.info? 225).getD default
theorem inf225 : Try.prog.info? 225 = some ti225 := by kernel_rfl
theorem sz225 : ti225.size = 2 := by kernel_rfl
theorem by225 : ti225.bytes = 16 := by kernel_rfl
theorem E22 : ElInfo Try.prog 22 36 1 24 (.sl (some true) 1 []) :=
  ⟨Try.underlying22, ⟨ti36, (.slice none 0 0), inf36, sz36, by36, by kernel_rfl, by kernel_rfl, fun _ _ => .nilsl _ _ (by decide)⟩, fits_of rfl, by decide⟩
theorem E31 : ElInfo Try.prog 31 5 1 1 (.int .u8 0) :=
  ⟨Try.underlying31, ⟨ti5, (.int .u8 0), inf5, sz5, by5, by kernel_rfl, by kernel_rfl, fun _ _ => .int _ _⟩, fits_of rfl, by decide⟩
theorem E36 : ElInfo Try.prog 36 3 1 8 (.int .i64 0) :=
  ⟨Try.underlying36, ⟨ti3, (.int .i64 0), inf3, sz3, by3, by kernel_rfl, by kernel_rfl, fun _ _ => .int _ _⟩, fits_of rfl, by decide⟩
theorem E43 : ElInfo Try.prog 43 156 1 24 (.sl (some true) 2 []) :=
  ⟨Try.underlying43, ⟨ti156, (.slice none 0 0), inf156, sz156, by156, by kernel_rfl, by kernel_rfl, fun _ _ => .nilsl _ _ (by decide)⟩, fits_of rfl, by decide⟩
theorem E48 : ElInfo Try.prog 48 107 1 24 (.sl (some true) 2 []) :=
  ⟨Try.underlying48, ⟨ti107, (.slice none 0 0), inf107, sz107, by107, by kernel_rfl, by kernel_rfl, fun _ _ => .nilsl _ _ (by decide)⟩, fits_of rfl, by decide⟩
theorem E54 : ElInfo Try.prog 54 167 1 24 (.sl (some true) 3 []) :=
  ⟨Try.underlying54, ⟨ti167, (.slice none 0 0), inf167, sz167, by167, by kernel_rfl, by kernel_rfl, fun _ _ => .nilsl _ _ (by decide)⟩, fits_of rfl, by decide⟩
theorem E62 : ElInfo Try.prog 62 84 1 24 (.sl (some true) 3 []) :=
  ⟨Try.underlying62, ⟨ti84, (.slice none 0 0), inf84, sz84, by84, by kernel_rfl, by kernel_rfl, fun _ _ => .nilsl _ _ (by decide)⟩, fits_of rfl, by decide⟩
theorem E191 : ElInfo Try.prog 191 4 1 1 (.bool false) :=
  ⟨Try.underlying191, ⟨ti4, (.bool false), inf4, sz4, by4, by kernel_rfl, by kernel_rfl, fun _ _ => .bool _⟩, fits_of rfl, by decide⟩
theorem Z45 : StZ Try.prog 45 [(.sl none 1 []), (.sl none 1 [])] := by
  refine ⟨⟨_, Try.underlying45⟩, ti45, #[(.slice none 0 0), (.slice none 0 0)], inf45, sz45, by kernel_rfl, fun w G => .agg _ _ rfl ?_ ?_⟩
  · intro j c h
    match j, h with
    | 0, h => cases h; rfl
    | 1, h => cases h; rfl
  · intro j c u h hu
    match j, h, hu with
    | 0, h, hu => cases h; cases hu; exact .nilsl _ _ (by decide)
    | 1, h, hu => cases h; cases hu; exact .nilsl _ _ (by decide)
theorem S45 : StInfo Try.prog 45 [(0, 1), (1, 1)] [(.sl none 1 []), (.sl none 1 [])] := by
  refine ⟨⟨_, Try.underlying45⟩, #[(.slice none 0 0), (.slice none 0 0)], fun l => by kernel_rfl, fun w G => .agg _ _ rfl ?_ ?_⟩
  · intro j c h
    match j, h with
    | 0, h => cases h; rfl
    | 1, h => cases h; rfl
  · intro j c u h hu
    match j, h, hu with
    | 0, h, hu => cases h; cases hu; exact .nilsl _ _ (by decide)
    | 1, h, hu => cases h; cases hu; exact .nilsl _ _ (by decide)
theorem Z50 : StZ Try.prog 50 [(.sl none 1 []), (.sl none 1 [])] := by
  refine ⟨⟨_, Try.underlying50⟩, ti50, #[(.slice none 0 0), (.slice none 0 0)], inf50, sz50, by kernel_rfl, fun w G => .agg _ _ rfl ?_ ?_⟩
  · intro j c h
    match j, h with
    | 0, h => cases h; rfl
    | 1, h => cases h; rfl
  · intro j c u h hu
    match j, h, hu with
    | 0, h, hu => cases h; cases hu; exact .nilsl _ _ (by decide)
    | 1, h, hu => cases h; cases hu; exact .nilsl _ _ (by decide)
theorem S50 : StInfo Try.prog 50 [(0, 1), (1, 1)] [(.sl none 1 []), (.sl none 1 [])] := by
  refine ⟨⟨_, Try.underlying50⟩, #[(.slice none 0 0), (.slice none 0 0)], fun l => by kernel_rfl, fun w G => .agg _ _ rfl ?_ ?_⟩
  · intro j c h
    match j, h with
    | 0, h => cases h; rfl
    | 1, h => cases h; rfl
  · intro j c u h hu
    match j, h, hu with
    | 0, h, hu => cases h; cases hu; exact .nilsl _ _ (by decide)
    | 1, h, hu => cases h; cases hu; exact .nilsl _ _ (by decide)
theorem Z57 : StZ Try.prog 57 [(.sl none 1 []), (.sl none 1 []), (.sl none 2 [])] := by
  refine ⟨⟨_, Try.underlying57⟩, ti57, #[(.slice none 0 0), (.slice none 0 0), (.slice none 0 0)], inf57, sz57, by kernel_rfl, fun w G => .agg _ _ rfl ?_ ?_⟩
  · intro j c h
    match j, h with
    | 0, h => cases h; rfl
    | 1, h => cases h; rfl
    | 2, h => cases h; rfl
  · intro j c u h hu
    match j, h, hu with
    | 0, h, hu => cases h; cases hu; exact .nilsl _ _ (by decide)
    | 1, h, hu => cases h; cases hu; exact .nilsl _ _ (by decide)
    | 2, h, hu => cases h; cases hu; exact .nilsl _ _ (by decide)
theorem S57 : StInfo Try.prog 57 [(0, 1), (1, 1), (2, 1)] [(.sl none 1 []), (.sl none 1 []), (.sl none 2 [])] := by
  refine ⟨⟨_, Try.underlying57⟩, #[(.slice none 0 0), (.slice none 0 0), (.slice none 0 0)], fun l => by kernel_rfl, fun w G => .agg _ _ rfl ?_ ?_⟩
  · intro j c h
    match j, h with
    | 0, h => cases h; rfl
    | 1, h => cases h; rfl
    | 2, h => cases h; rfl
  · intro j c u h hu
    match j, h, hu with
    | 0, h, hu => cases h; cases hu; exact .nilsl _ _ (by decide)
    | 1, h, hu => cases h; cases hu; exact .nilsl _ _ (by decide)
    | 2, h, hu => cases h; cases hu; exact .nilsl _ _ (by decide)
theorem Z60 : StZ Try.prog 60 [(.int .i64 0), (.int .i64 0), (.int .i64 0), (.int .i64 0)] := by
  refine ⟨⟨_, Try.underlying60⟩, ti60, #[(.int .i64 0), (.int .i64 0), (.int .i64 0), (.int .i64 0)], inf60, sz60, by kernel_rfl, fun w G => .agg _ _ rfl ?_ ?_⟩
  · intro j c h
    match j, h with
    | 0, h => cases h; rfl
    | 1, h => cases h; rfl
    | 2, h => cases h; rfl
    | 3, h => cases h; rfl
  · intro j c u h hu
    match j, h, hu with
    | 0, h, hu => cases h; cases hu; exact .int _ _
    | 1, h, hu => cases h; cases hu; exact .int _ _
    | 2, h, hu => cases h; cases hu; exact .int _ _
    | 3, h, hu => cases h; cases hu; exact .int _ _
theorem S60 : StInfo Try.prog 60 [(0, 1), (1, 1), (2, 1), (3, 1)] [(.int .i64 0), (.int .i64 0), (.int .i64 0), (.int .i64 0)] := by
  refine ⟨⟨_, Try.underlying60⟩, #[(.int .i64 0), (.int .i64 0), (.int .i64 0), (.int .i64 0)], fun l => by kernel_rfl, fun w G => .agg _ _ rfl ?_ ?_⟩
  · intro j c h
    match j, h with
    | 0, h => cases h; rfl
    | 1, h => cases h; rfl
    | 2, h => cases h; rfl
    | 3, h => cases h; rfl
  · intro j c u h hu
    match j, h, hu with
    | 0, h, hu => cases h; cases hu; exact .int _ _
    | 1, h, hu => cases h; cases hu; exact .int _ _
    | 2, h, hu => cases h; cases hu; exact .int _ _
    | 3, h, hu => cases h; cases hu; exact .int _ _
theorem Z65 : StZ Try.prog 65 [(.sl none 1 []), (.sl none 1 []), (.sl none 2 [])] := by
  refine ⟨⟨_, Try.underlying65⟩, ti65, #[(.slice none 0 0), (.slice none 0 0), (.slice none 0 0)], inf65, sz65, by kernel_rfl, fun w G => .agg _ _ rfl ?_ ?_⟩
  · intro j c h
    match j, h with
    | 0, h => cases h; rfl
    | 1, h => cases h; rfl
    | 2, h => cases h; rfl
  · intro j c u h hu
    match j, h, hu with
    | 0, h, hu => cases h; cases hu; exact .nilsl _ _ (by decide)
    | 1, h, hu => cases h; cases hu; exact .nilsl _ _ (by decide)
    | 2, h, hu => cases h; cases hu; exact .nilsl _ _ (by decide)
theorem S65 : StInfo Try.prog 65 [(0, 1), (1, 1), (2, 1)] [(.sl none 1 []), (.sl none 1 []), (.sl none 2 [])] := by
  refine ⟨⟨_, Try.underlying65⟩, #[(.slice none 0 0), (.slice none 0 0), (.slice none 0 0)], fun l => by kernel_rfl, fun w G => .agg _ _ rfl ?_ ?_⟩
  · intro j c h
    match j, h with
    | 0, h => cases h; rfl
    | 1, h => cases h; rfl
    | 2, h => cases h; rfl
  · intro j c u h hu
    match j, h, hu with
    | 0, h, hu => cases h; cases hu; exact .nilsl _ _ (by decide)
    | 1, h, hu => cases h; cases hu; exact .nilsl _ _ (by decide)
    | 2, h, hu => cases h; cases hu; exact .nilsl _ _ (by decide)
theorem Z73 : StZ Try.prog 73 [(.int .i64 0), (.int .i64 0), (.int .i64 0)] := by
  refine ⟨⟨_, Try.underlying73⟩, ti73, #[(.int .i64 0), (.int .i64 0), (.int .i64 0)], inf73, sz73, by kernel_rfl, fun w G => .agg _ _ rfl ?_ ?_⟩
  · intro j c h
    match j, h with
    | 0, h => cases h; rfl
    | 1, h => cases h; rfl
    | 2, h => cases h; rfl
  · intro j c u h hu
    match j, h, hu with
    | 0, h, hu => cases h; cases hu; exact .int _ _
    | 1, h, hu => cases h; cases hu; exact .int _ _
    | 2, h, hu => cases h; cases hu; exact .int _ _
theorem E84 : ElInfo Try.prog 84 73 3 24 (.agg [(.int .i64 0), (.int .i64 0), (.int .i64 0)]) := .of_struct Try.underlying84 Z73 (fun i h => by rw [inf73] at h; rw [← Option.some.inj h]; exact by73) (List.cons_ne_nil _ _)
theorem S73 : StInfo Try.prog 73 [(0, 1), (1, 1), (2, 1)] [(.int .i64 0), (.int .i64 0), (.int .i64 0)] := by
  refine ⟨⟨_, Try.underlying73⟩, #[(.int .i64 0), (.int .i64 0), (.int .i64 0)], fun l => by kernel_rfl, fun w G => .agg _ _ rfl ?_ ?_⟩
  · intro j c h
    match j, h with
    | 0, h => cases h; rfl
    | 1, h => cases h; rfl
    | 2, h => cases h; rfl
  · intro j c u h hu
    match j, h, hu with
    | 0, h, hu => cases h; cases hu; exact .int _ _
    | 1, h, hu => cases h; cases hu; exact .int _ _
    | 2, h, hu => cases h; cases hu; exact .int _ _
theorem Z88 : StZ Try.prog 88 [(.int .i64 0), (.sl none 2 [])] := by
  refine ⟨⟨_, Try.underlying88⟩, ti88, #[(.int .i64 0), (.slice none 0 0)], inf88, sz88, by kernel_rfl, fun w G => .agg _ _ rfl ?_ ?_⟩
  · intro j c h
    match j, h with
    | 0, h => cases h; rfl
    | 1, h => cases h; rfl
  · intro j c u h hu
    match j, h, hu with
    | 0, h, hu => cases h; cases hu; exact .int _ _
    | 1, h, hu => cases h; cases hu; exact .nilsl _ _ (by decide)
theorem S88 : StInfo Try.prog 88 [(0, 1), (1, 1)] [(.int .i64 0), (.sl none 2 [])] := by
  refine ⟨⟨_, Try.underlying88⟩, #[(.int .i64 0), (.slice none 0 0)], fun l => by kernel_rfl, fun w G => .agg _ _ rfl ?_ ?_⟩
  · intro j c h
    match j, h with
    | 0, h => cases h; rfl
    | 1, h => cases h; rfl
  · intro j c u h hu
    match j, h, hu with
    | 0, h, hu => cases h; cases hu; exact .int _ _
    | 1, h, hu => cases h; cases hu; exact .nilsl _ _ (by decide)
theorem Z90 : StZ Try.prog 90 [(.int .i64 0), (.sl none 2 []), (.int .i64 0)] := by
  refine ⟨⟨_, Try.underlying90⟩, ti90, #[(.int .i64 0), (.slice none 0 0), (.int .i64 0)], inf90, sz90, by kernel_rfl, fun w G => .agg _ _ rfl ?_ ?_⟩
  · intro j c h
    match j, h with
    | 0, h => cases h; rfl
    | 1, h => cases h; rfl
    | 2, h => cases h; rfl
  · intro j c u h hu
    match j, h, hu with
    | 0, h, hu => cases h; cases hu; exact .int _ _
    | 1, h, hu => cases h; cases hu; exact .nilsl _ _ (by decide)
    | 2, h, hu => cases h; cases hu; exact .int _ _
theorem E147 : ElInfo Try.prog 147 90 3 40 (.agg [(.int .i64 0), (.sl none 2 []), (.int .i64 0)]) := .of_struct Try.underlying147 Z90 (fun i h => by rw [inf90] at h; rw [← Option.some.inj h]; exact by90) (List.cons_ne_nil _ _)
theorem S90 : StInfo Try.prog 90 [(0, 2), (2, 1)] [(.int .i64 0), (.sl none 2 []), (.int .i64 0)] := by
  refine ⟨⟨_, Try.underlying90⟩, #[(.int .i64 0), (.slice none 0 0), (.int .i64 0)], fun l => by kernel_rfl, fun w G => .agg _ _ rfl ?_ ?_⟩
  · intro j c h
    match j, h with
    | 0, h => cases h; rfl
    | 1, h => cases h; rfl
    | 2, h => cases h; rfl
  · intro j c u h hu
    match j, h, hu with
    | 0, h, hu => cases h; cases hu; exact .int _ _
    | 1, h, hu => cases h; cases hu; exact .nilsl _ _ (by decide)
    | 2, h, hu => cases h; cases hu; exact .int _ _
theorem Z94 : StZ Try.prog 94 [(.int .i64 0), (.int .i64 0)] := by
  refine ⟨⟨_, Try.underlying94⟩, ti94, #[(.int .i64 0), (.int .i64 0)], inf94, sz94, by kernel_rfl, fun w G => .agg _ _ rfl ?_ ?_⟩
  · intro j c h
    match j, h with
    | 0, h => cases h; rfl
    | 1, h => cases h; rfl
  · intro j c u h hu
    match j, h, hu with
    | 0, h, hu => cases h; cases hu; exact .int _ _
    | 1, h, hu => cases h; cases hu; exact .int _ _
theorem E24 : ElInfo Try.prog 24 94 2 16 (.agg [(.int .i64 0), (.int .i64 0)]) := .of_struct Try.underlying24 Z94 (fun i h => by rw [inf94] at h; rw [← Option.some.inj h]; exact by94) (List.cons_ne_nil _ _)
theorem S94 : StInfo Try.prog 94 [(0, 1), (1, 1)] [(.int .i64 0), (.int .i64 0)] := by
  refine ⟨⟨_, Try.underlying94⟩, #[(.int .i64 0), (.int .i64 0)], fun l => by kernel_rfl, fun w G => .agg _ _ rfl ?_ ?_⟩
  · intro j c h
    match j, h with
    | 0, h => cases h; rfl
    | 1, h => cases h; rfl
  · intro j c u h hu
    match j, h, hu with
    | 0, h, hu => cases h; cases hu; exact .int _ _
    | 1, h, hu => cases h; cases hu; exact .int _ _
theorem Z118 : StZ Try.prog 118 [(.int .i64 0), (.sl none 2 [])] := by
  refine ⟨⟨_, Try.underlying118⟩, ti118, #[(.int .i64 0), (.slice none 0 0)], inf118, sz118, by kernel_rfl, fun w G => .agg _ _ rfl ?_ ?_⟩
  · intro j c h
    match j, h with
    | 0, h => cases h; rfl
    | 1, h => cases h; rfl
  · intro j c u h hu
    match j, h, hu with
    | 0, h, hu => cases h; cases hu; exact .int _ _
    | 1, h, hu => cases h; cases hu; exact .nilsl _ _ (by decide)
theorem E63 : ElInfo Try.prog 63 118 2 32 (.agg [(.int .i64 0), (.sl none 2 [])]) := .of_struct Try.underlying63 Z118 (fun i h => by rw [inf118] at h; rw [← Option.some.inj h]; exact by118) (List.cons_ne_nil _ _)
theorem S118 : StInfo Try.prog 118 [(0, 1), (1, 1)] [(.int .i64 0), (.sl none 2 [])] := by
  refine ⟨⟨_, Try.underlying118⟩, #[(.int .i64 0), (.slice none 0 0)], fun l => by kernel_rfl, fun w G => .agg _ _ rfl ?_ ?_⟩
  · intro j c h
    match j, h with
    | 0, h => cases h; rfl
    | 1, h => cases h; rfl
  · intro j c u h hu
    match j, h, hu with
    | 0, h, hu => cases h; cases hu; exact .int _ _
    | 1, h, hu => cases h; cases hu; exact .nilsl _ _ (by decide)
theorem Z128 : StZ Try.prog 128 [(.int .i64 0), (.int .i64 0)] := by
  refine ⟨⟨_, Try.underlying128⟩, ti128, #[(.int .i64 0), (.int .i64 0)], inf128, sz128, by kernel_rfl, fun w G => .agg _ _ rfl ?_ ?_⟩
  · intro j c h
    match j, h with
    | 0, h => cases h; rfl
    | 1, h => cases h; rfl
  · intro j c u h hu
    match j, h, hu with
    | 0, h, hu => cases h; cases hu; exact .int _ _
    | 1, h, hu => cases h; cases hu; exact .int _ _
theorem E116 : ElInfo Try.prog 116 128 2 16 (.agg [(.int .i64 0), (.int .i64 0)]) := .of_struct Try.underlying116 Z128 (fun i h => by rw [inf128] at h; rw [← Option.some.inj h]; exact by128) (List.cons_ne_nil _ _)
theorem S128 : StInfo Try.prog 128 [(0, 1), (1, 1)] [(.int .i64 0), (.int .i64 0)] := by
  refine ⟨⟨_, Try.underlying128⟩, #[(.int .i64 0), (.int .i64 0)], fun l => by kernel_rfl, fun w G => .agg _ _ rfl ?_ ?_⟩
  · intro j c h
    match j, h with
    | 0, h => cases h; rfl
    | 1, h => cases h; rfl
  · intro j c u h hu
    match j, h, hu with
    | 0, h, hu => cases h; cases hu; exact .int _ _
    | 1, h, hu => cases h; cases hu; exact .int _ _
theorem Z150 : StZ Try.prog 150 [(.sl none 1 []), (.int .i64 0)] := by
  refine ⟨⟨_, Try.underlying150⟩, ti150, #[(.slice none 0 0), (.int .i64 0)], inf150, sz150, by kernel_rfl, fun w G => .agg _ _ rfl ?_ ?_⟩
  · intro j c h
    match j, h with
    | 0, h => cases h; rfl
    | 1, h => cases h; rfl
  · intro j c u h hu
    match j, h, hu with
    | 0, h, hu => cases h; cases hu; exact .nilsl _ _ (by decide)
    | 1, h, hu => cases h; cases hu; exact .int _ _
theorem S150 : StInfo Try.prog 150 [(0, 1), (1, 1)] [(.sl none 1 []), (.int .i64 0)] := by
  refine ⟨⟨_, Try.underlying150⟩, #[(.slice none 0 0), (.int .i64 0)], fun l => by kernel_rfl, fun w G => .agg _ _ rfl ?_ ?_⟩
  · intro j c h
    match j, h with
    | 0, h => cases h; rfl
    | 1, h => cases h; rfl
  · intro j c u h hu
    match j, h, hu with
    | 0, h, hu => cases h; cases hu; exact .nilsl _ _ (by decide)
    | 1, h, hu => cases h; cases hu; exact .int _ _
theorem Z160 : StZ Try.prog 160 [(.int .i64 0), (.sl none 2 [])] := by
  refine ⟨⟨_, Try.underlying160⟩, ti160, #[(.int .i64 0), (.slice none 0 0)], inf160, sz160, by kernel_rfl, fun w G => .agg _ _ rfl ?_ ?_⟩
  · intro j c h
    match j, h with
    | 0, h => cases h; rfl
    | 1, h => cases h; rfl
  · intro j c u h hu
    match j, h, hu with
    | 0, h, hu => cases h; cases hu; exact .int _ _
    | 1, h, hu => cases h; cases hu; exact .nilsl _ _ (by decide)
theorem E107 : ElInfo Try.prog 107 160 2 32 (.agg [(.int .i64 0), (.sl none 2 [])]) := .of_struct Try.underlying107 Z160 (fun i h => by rw [inf160] at h; rw [← Option.some.inj h]; exact by160) (List.cons_ne_nil _ _)
theorem S160 : StInfo Try.prog 160 [(0, 1), (1, 1)] [(.int .i64 0), (.sl none 2 [])] := by
  refine ⟨⟨_, Try.underlying160⟩, #[(.int .i64 0), (.slice none 0 0)], fun l => by kernel_rfl, fun w G => .agg _ _ rfl ?_ ?_⟩
  · intro j c h
    match j, h with
    | 0, h => cases h; rfl
    | 1, h => cases h; rfl
  · intro j c u h hu
    match j, h, hu with
    | 0, h, hu => cases h; cases hu; exact .int _ _
    | 1, h, hu => cases h; cases hu; exact .nilsl _ _ (by decide)
theorem Z171 : StZ Try.prog 171 [(.int .i64 0), (.sl none 2 [])] := by
  refine ⟨⟨_, Try.underlying171⟩, ti171, #[(.int .i64 0), (.slice none 0 0)], inf171, sz171, by kernel_rfl, fun w G => .agg _ _ rfl ?_ ?_⟩
  · intro j c h
    match j, h with
    | 0, h => cases h; rfl
    | 1, h => cases h; rfl
  · intro j c u h hu
    match j, h, hu with
    | 0, h, hu => cases h; cases hu; exact .int _ _
    | 1, h, hu => cases h; cases hu; exact .nilsl _ _ (by decide)
theorem E55 : ElInfo Try.prog 55 171 2 32 (.agg [(.int .i64 0), (.sl none 2 [])]) := .of_struct Try.underlying55 Z171 (fun i h => by rw [inf171] at h; rw [← Option.some.inj h]; exact by171) (List.cons_ne_nil _ _)
theorem S171 : StInfo Try.prog 171 [(0, 1), (1, 1)] [(.int .i64 0), (.sl none 2 [])] := by
  refine ⟨⟨_, Try.underlying171⟩, #[(.int .i64 0), (.slice none 0 0)], fun l => by kernel_rfl, fun w G => .agg _ _ rfl ?_ ?_⟩
  · intro j c h
    match j, h with
    | 0, h => cases h; rfl
    | 1, h => cases h; rfl
  · intro j c u h hu
    match j, h, hu with
    | 0, h, hu => cases h; cases hu; exact .int _ _
    | 1, h, hu => cases h; cases hu; exact .nilsl _ _ (by decide)
theorem Z178 : StZ Try.prog 178 [] := by
  refine ⟨⟨_, Try.underlying178⟩, ti178, #[], inf178, sz178, by kernel_rfl, fun w G => .agg _ _ rfl ?_ ?_⟩
  · intro j c h; simp at h
  · intro j c u h hu; simp at h
theorem S178 : StInfo Try.prog 178 [] [] := by
  refine ⟨⟨_, Try.underlying178⟩, #[], fun l => by kernel_rfl, fun w G => .agg _ _ rfl ?_ ?_⟩
  · intro j c h; simp at h
  · intro j c u h hu; simp at h
theorem Z180 : StZ Try.prog 180 [(.int .i64 0), (.int .i64 0), (.int .i64 0), (.int .i64 0)] := by
  refine ⟨⟨_, Try.underlying180⟩, ti180, #[(.int .i64 0), (.int .i64 0), (.int .i64 0), (.int .i64 0)], inf180, sz180, by kernel_rfl, fun w G => .agg _ _ rfl ?_ ?_⟩
  · intro j c h
    match j, h with
    | 0, h => cases h; rfl
    | 1, h => cases h; rfl
    | 2, h => cases h; rfl
    | 3, h => cases h; rfl
  · intro j c u h hu
    match j, h, hu with
    | 0, h, hu => cases h; cases hu; exact .int _ _
    | 1, h, hu => cases h; cases hu; exact .int _ _
    | 2, h, hu => cases h; cases hu; exact .int _ _
    | 3, h, hu => cases h; cases hu; exact .int _ _
theorem S180 : StInfo Try.prog 180 [(0, 1), (1, 3)] [(.int .i64 0), (.int .i64 0), (.int .i64 0), (.int .i64 0)] := by
  refine ⟨⟨_, Try.underlying180⟩, #[(.int .i64 0), (.int .i64 0), (.int .i64 0), (.int .i64 0)], fun l => by kernel_rfl, fun w G => .agg _ _ rfl ?_ ?_⟩
  · intro j c h
    match j, h with
    | 0, h => cases h; rfl
    | 1, h => cases h; rfl
    | 2, h => cases h; rfl
    | 3, h => cases h; rfl
  · intro j c u h hu
    match j, h, hu with
    | 0, h, hu => cases h; cases hu; exact .int _ _
    | 1, h, hu => cases h; cases hu; exact .int _ _
    | 2, h, hu => cases h; cases hu; exact .int _ _
    | 3, h, hu => cases h; cases hu; exact .int _ _
theorem Z182 : StZ Try.prog 182 [(.int .i64 0), (.int .i64 0), (.int .i64 0), (.int .i64 0)] := by
  refine ⟨⟨_, Try.underlying182⟩, ti182, #[(.int .i64 0), (.int .i64 0), (.int .i64 0), (.int .i64 0)], inf182, sz182, by kernel_rfl, fun w G => .agg _ _ rfl ?_ ?_⟩
  · intro j c h
    match j, h with
    | 0, h => cases h; rfl
    | 1, h => cases h; rfl
    | 2, h => cases h; rfl
    | 3, h => cases h; rfl
  · intro j c u h hu
    match j, h, hu with
    | 0, h, hu => cases h; cases hu; exact .int _ _
    | 1, h, hu => cases h; cases hu; exact .int _ _
    | 2, h, hu => cases h; cases hu; exact .int _ _
    | 3, h, hu => cases h; cases hu; exact .int _ _
theorem S182 : StInfo Try.prog 182 [(0, 4)] [(.int .i64 0), (.int .i64 0), (.int .i64 0), (.int .i64 0)] := by
  refine ⟨⟨_, Try.underlying182⟩, #[(.int .i64 0), (.int .i64 0), (.int .i64 0), (.int .i64 0)], fun l => by kernel_rfl, fun w G => .agg _ _ rfl ?_ ?_⟩
  · intro j c h
    match j, h with
    | 0, h => cases h; rfl
    | 1, h => cases h; rfl
    | 2, h => cases h; rfl
    | 3, h => cases h; rfl
  · intro j c u h hu
    match j, h, hu with
    | 0, h, hu => cases h; cases hu; exact .int _ _
    | 1, h, hu => cases h; cases hu; exact .int _ _
    | 2, h, hu => cases h; cases hu; exact .int _ _
    | 3, h, hu => cases h; cases hu; exact .int _ _
theorem Z183 : StZ Try.prog 183 [(.int .i64 0), (.int .i64 0), (.int .i64 0), (.int .i64 0)] := by
  refine ⟨⟨_, Try.underlying183⟩, ti183, #[(.int .i64 0), (.int .i64 0), (.int .i64 0), (.int .i64 0)], inf183, sz183, by kernel_rfl, fun w G => .agg _ _ rfl ?_ ?_⟩
  · intro j c h
    match j, h with
    | 0, h => cases h; rfl
    | 1, h => cases h; rfl
    | 2, h => cases h; rfl
    | 3, h => cases h; rfl
  · intro j c u h hu
    match j, h, hu with
    | 0, h, hu => cases h; cases hu; exact .int _ _
    | 1, h, hu => cases h; cases hu; exact .int _ _
    | 2, h, hu => cases h; cases hu; exact .int _ _
    | 3, h, hu => cases h; cases hu; exact .int _ _
theorem S183 : StInfo Try.prog 183 [(0, 4)] [(.int .i64 0), (.int .i64 0), (.int .i64 0), (.int .i64 0)] := by
  refine ⟨⟨_, Try.underlying183⟩, #[(.int .i64 0), (.int .i64 0), (.int .i64 0), (.int .i64 0)], fun l => by kernel_rfl, fun w G => .agg _ _ rfl ?_ ?_⟩
  · intro j c h
    match j, h with
    | 0, h => cases h; rfl
    | 1, h => cases h; rfl
    | 2, h => cases h; rfl
    | 3, h => cases h; rfl
  · intro j c u h hu
    match j, h, hu with
    | 0, h, hu => cases h; cases hu; exact .int _ _
    | 1, h, hu => cases h; cases hu; exact .int _ _
    | 2, h, hu => cases h; cases hu; exact .int _ _
    | 3, h, hu => cases h; cases hu; exact .int _ _
theorem Z185 : StZ Try.prog 185 [(.int .i64 0), (.int .i64 0), (.int .i64 0), (.int .i64 0)] := by
  refine ⟨⟨_, Try.underlying185⟩, ti185, #[(.int .i64 0), (.int .i64 0), (.int .i64 0), (.int .i64 0)], inf185, sz185, by kernel_rfl, fun w G => .agg _ _ rfl ?_ ?_⟩
  · intro j c h
    match j, h with
    | 0, h => cases h; rfl
    | 1, h => cases h; rfl
    | 2, h => cases h; rfl
    | 3, h => cases h; rfl
  · intro j c u h hu
    match j, h, hu with
    | 0, h, hu => cases h; cases hu; exact .int _ _
    | 1, h, hu => cases h; cases hu; exact .int _ _
    | 2, h, hu => cases h; cases hu; exact .int _ _
    | 3, h, hu => cases h; cases hu; exact .int _ _
theorem S185 : StInfo Try.prog 185 [(0, 4)] [(.int .i64 0), (.int .i64 0), (.int .i64 0), (.int .i64 0)] := by
  refine ⟨⟨_, Try.underlying185⟩, #[(.int .i64 0), (.int .i64 0), (.int .i64 0), (.int .i64 0)], fun l => by kernel_rfl, fun w G => .agg _ _ rfl ?_ ?_⟩
  · intro j c h
    match j, h with
    | 0, h => cases h; rfl
    | 1, h => cases h; rfl
    | 2, h => cases h; rfl
    | 3, h => cases h; rfl
  · intro j c u h hu
    match j, h, hu with
    | 0, h, hu => cases h; cases hu; exact .int _ _
    | 1, h, hu => cases h; cases hu; exact .int _ _
    | 2, h, hu => cases h; cases hu; exact .int _ _
    | 3, h, hu => cases h; cases hu; exact .int _ _
theorem Z186 : StZ Try.prog 186 [(.int .i64 0), (.int .i64 0), (.int .i64 0), (.int .i64 0)] := by
  refine ⟨⟨_, Try.underlying186⟩, ti186, #[(.int .i64 0), (.int .i64 0), (.int .i64 0), (.int .i64 0)], inf186, sz186, by kernel_rfl, fun w G => .agg _ _ rfl ?_ ?_⟩
  · intro j c h
    match j, h with
    | 0, h => cases h; rfl
    | 1, h => cases h; rfl
    | 2, h => cases h; rfl
    | 3, h => cases h; rfl
  · intro j c u h hu
    match j, h, hu with
    | 0, h, hu => cases h; cases hu; exact .int _ _
    | 1, h, hu => cases h; cases hu; exact .int _ _
    | 2, h, hu => cases h; cases hu; exact .int _ _
    | 3, h, hu => cases h; cases hu; exact .int _ _
theorem S186 : StInfo Try.prog 186 [(0, 4)] [(.int .i64 0), (.int .i64 0), (.int .i64 0), (.int .i64 0)] := by
  refine ⟨⟨_, Try.underlying186⟩, #[(.int .i64 0), (.int .i64 0), (.int .i64 0), (.int .i64 0)], fun l => by kernel_rfl, fun w G => .agg _ _ rfl ?_ ?_⟩
  · intro j c h
    match j, h with
    | 0, h => cases h; rfl
    | 1, h => cases h; rfl
    | 2, h => cases h; rfl
    | 3, h => cases h; rfl
  · intro j c u h hu
    match j, h, hu with
    | 0, h, hu => cases h; cases hu; exact .int _ _
    | 1, h, hu => cases h; cases hu; exact .int _ _
    | 2, h, hu => cases h; cases hu; exact .int _ _
    | 3, h, hu => cases h; cases hu; exact .int _ _
theorem Z200 : StZ Try.prog 200 [(.int .i64 0), (.sl none 2 [])] := by
  refine ⟨⟨_, Try.underlying200⟩, ti200, #[(.int .i64 0), (.slice none 0 0)], inf200, sz200, by kernel_rfl, fun w G => .agg _ _ rfl ?_ ?_⟩
  · intro j c h
    match j, h with
    | 0, h => cases h; rfl
    | 1, h => cases h; rfl
  · intro j c u h hu
    match j, h, hu with
    | 0, h, hu => cases h; cases hu; exact .int _ _
    | 1, h, hu => cases h; cases hu; exact .nilsl _ _ (by decide)
theorem E156 : ElInfo Try.prog 156 200 2 32 (.agg [(.int .i64 0), (.sl none 2 [])]) := .of_struct Try.underlying156 Z200 (fun i h => by rw [inf200] at h; rw [← Option.some.inj h]; exact by200) (List.cons_ne_nil _ _)
theorem S200 : StInfo Try.prog 200 [(0, 1), (1, 1)] [(.int .i64 0), (.sl none 2 [])] := by
  refine ⟨⟨_, Try.underlying200⟩, #[(.int .i64 0), (.slice none 0 0)], fun l => by kernel_rfl, fun w G => .agg _ _ rfl ?_ ?_⟩
  · intro j c h
    match j, h with
    | 0, h => cases h; rfl
    | 1, h => cases h; rfl
  · intro j c u h hu
    match j, h, hu with
    | 0, h, hu => cases h; cases hu; exact .int _ _
    | 1, h, hu => cases h; cases hu; exact .nilsl _ _ (by decide)
theorem Z202 : StZ Try.prog 202 [(.int .i64 0), (.int .i64 0)] := by
  refine ⟨⟨_, Try.underlying202⟩, ti202, #[(.int .i64 0), (.int .i64 0)], inf202, sz202, by kernel_rfl, fun w G => .agg _ _ rfl ?_ ?_⟩
  · intro j c h
    match j, h with
    | 0, h => cases h; rfl
    | 1, h => cases h; rfl
  · intro j c u h hu
    match j, h, hu with
    | 0, h, hu => cases h; cases hu; exact .int _ _
    | 1, h, hu => cases h; cases hu; exact .int _ _
theorem E158 : ElInfo Try.prog 158 202 2 16 (.agg [(.int .i64 0), (.int .i64 0)]) := .of_struct Try.underlying158 Z202 (fun i h => by rw [inf202] at h; rw [← Option.some.inj h]; exact by202) (List.cons_ne_nil _ _)
theorem S202 : StInfo Try.prog 202 [(0, 1), (1, 1)] [(.int .i64 0), (.int .i64 0)] := by
  refine ⟨⟨_, Try.underlying202⟩, #[(.int .i64 0), (.int .i64 0)], fun l => by kernel_rfl, fun w G => .agg _ _ rfl ?_ ?_⟩
  · intro j c h
    match j, h with
    | 0, h => cases h; rfl
    | 1, h => cases h; rfl
  · intro j c u h hu
    match j, h, hu with
    | 0, h, hu => cases h; cases hu; exact .int _ _
    | 1, h, hu => cases h; cases hu; exact .int _ _
theorem Z208 : StZ Try.prog 208 [(.int .i64 0), (.int .i64 0), (.int .i64 0)] := by
  refine ⟨⟨_, Try.underlying208⟩, ti208, #[(.int .i64 0), (.int .i64 0), (.int .i64 0)], inf208, sz208, by kernel_rfl, fun w G => .agg _ _ rfl ?_ ?_⟩
  · intro j c h
    match j, h with
    | 0, h => cases h; rfl
    | 1, h => cases h; rfl
    | 2, h => cases h; rfl
  · intro j c u h hu
    match j, h, hu with
    | 0, h, hu => cases h; cases hu; exact .int _ _
    | 1, h, hu => cases h; cases hu; exact .int _ _
    | 2, h, hu => cases h; cases hu; exact .int _ _
theorem E167 : ElInfo Try.prog 167 208 3 24 (.agg [(.int .i64 0), (.int .i64 0), (.int .i64 0)]) := .of_struct Try.underlying167 Z208 (fun i h => by rw [inf208] at h; rw [← Option.some.inj h]; exact by208) (List.cons_ne_nil _ _)
theorem S208 : StInfo Try.prog 208 [(0, 1), (1, 1), (2, 1)] [(.int .i64 0), (.int .i64 0), (.int .i64 0)] := by
  refine ⟨⟨_, Try.underlying208⟩, #[(.int .i64 0), (.int .i64 0), (.int .i64 0)], fun l => by kernel_rfl, fun w G => .agg _ _ rfl ?_ ?_⟩
  · intro j c h
    match j, h with
    | 0, h => cases h; rfl
    | 1, h => cases h; rfl
    | 2, h => cases h; rfl
  · intro j c u h hu
    match j, h, hu with
    | 0, h, hu => cases h; cases hu; exact .int _ _
    | 1, h, hu => cases h; cases hu; exact .int _ _
    | 2, h, hu => cases h; cases hu; exact .int _ _
theorem Z219 : StZ Try.prog 219 [(.int .i64 0), (.int .i64 0)] := by
  refine ⟨⟨_, Try.underlying219⟩, ti219, #[(.int .i64 0), (.int .i64 0)], inf219, sz219, by kernel_rfl, fun w G => .agg _ _ rfl ?_ ?_⟩
  · intro j c h
    match j, h with
    | 0, h => cases h; rfl
    | 1, h => cases h; rfl
  · intro j c u h hu
    match j, h, hu with
    | 0, h, hu => cases h; cases hu; exact .int _ _
    | 1, h, hu => cases h; cases hu; exact .int _ _
theorem E169 : ElInfo Try.prog 169 219 2 16 (.agg [(.int .i64 0), (.int .i64 0)]) := .of_struct Try.underlying169 Z219 (fun i h => by rw [inf219] at h; rw [← Option.some.inj h]; exact by219) (List.cons_ne_nil _ _)
theorem S219 : StInfo Try.prog 219 [(0, 1), (1, 1)] [(.int .i64 0), (.int .i64 0)] := by
  refine ⟨⟨_, Try.underlying219⟩, #[(.int .i64 0), (.int .i64 0)], fun l => by kernel_rfl, fun w G => .agg _ _ rfl ?_ ?_⟩
  · intro j c h
    match j, h with
    | 0, h => cases h; rfl
    | 1, h => cases h; rfl
  · intro j c u h hu
    match j, h, hu with
    | 0, h, hu => cases h; cases hu; exact .int _ _
    | 1, h, hu => cases h; cases hu; exact .int _ _
theorem Z225 : StZ Try.prog 225 [(.int .i64 0), (.int .i64 0)] := by
  refine ⟨⟨_, Try.underlying225⟩, ti225, #[(.int .i64 0), (.int .i64 0)], inf225, sz225, by kernel_rfl, fun w G => .agg _ _ rfl ?_ ?_⟩
  · intro j c h
    match j, h with
    | 0, h => cases h; rfl
    | 1, h => cases h; rfl
  · intro j c u h hu
    match j, h, hu with
    | 0, h, hu => cases h; cases hu; exact .int _ _
    | 1, h, hu => cases h; cases hu; exact .int _ _
theorem E198 : ElInfo Try.prog 198 225 2 16 (.agg [(.int .i64 0), (.int .i64 0)]) := .of_struct Try.underlying198 Z225 (fun i h => by rw [inf225] at h; rw [← Option.some.inj h]; exact by225) (List.cons_ne_nil _ _)
theorem S225 : StInfo Try.prog 225 [(0, 1), (1, 1)] [(.int .i64 0), (.int .i64 0)] := by
  refine ⟨⟨_, Try.underlying225⟩, #[(.int .i64 0), (.int .i64 0)], fun l => by kernel_rfl, fun w G => .agg _ _ rfl ?_ ?_⟩
  · intro j c h
    match j, h with
    | 0, h => cases h; rfl
    | 1, h => cases h; rfl
  · intro j c u h hu
    match j, h, hu with
    | 0, h, hu => cases h; cases hu; exact .int _ _
    | 1, h, hu => cases h; cases hu; exact .int _ _
end Go.Vl
