/- Part 6 of the texts that the proof of FnExactHooksOf is built on. -/
import Derived.Test.YtlpchicpbnmdgaaVl5
/- Cells of rows whose slices are their own: a plain one is written; a slice in one is lent to a function, which may write it. -/
namespace Go.Vl
set_option linter.unusedVariables false
set_option linter.unusedSimpArgs false
open Go.RowKit

theorem fits_set {p p' c : PV} {e o : Nat} (hf : p.fits e) (hc : c.isAgg = false) (hp' : p'.cells = p.cells.set o c) : p'.fits e := by
  refine ⟨by rw [hp', List.length_set]; exact hf.1, fun j d hd => ?_⟩
  rw [hp', List.getElem?_set] at hd
  split at hd
  · split at hd
    · cases hd; exact hc
    · cases hd
  · exact hf.2 j d hd

theorem idx_ne {e k j i o : Nat} (hj : j < e) (ho : o < e) (h : ¬ (k = i ∧ j = o)) : k * e + j ≠ i * e + o := by
  intro h9
  have e2 : (k * e + j) / e = (i * e + o) / e := by rw [h9]
  rw [Nat.mul_comm i e, Nat.mul_comm k e, Nat.mul_add_div (by omega), Nat.mul_add_div (by omega), Nat.div_eq_of_lt hj, Nat.div_eq_of_lt ho] at e2
  have : k = i := by omega
  subst this
  exact h ⟨rfl, by omega⟩

section
variable {P : Program} {C : Ctx} {Q : Go.Exit → St → Prop} {s : St} {ops : Array Oper} {rest : List Oper} {t : Nat} {ty : TypeId} {pos : String} {af : Array Edge}

/-- A plain cell of an element is written. -/
theorem vo_store_treeC {x y : Operand} {T id R e i o : Nat} {nl : Option Bool} {f : Bool} {xs : List PV} {p p' c c0 : PV} {inf : TypeInfo} (hx : getO s.env x = .ptr id e i o) (hrow : s.rows[id]? = some (.tree R e nl none xs))
    (hy : getO s.env y = .pv f c) (hsc : c.scal = true) (hinf : P.info? T = some inf) (hsz : inf.size = 1) (hget : xs[i]? = some p) (hc0 : p.cells[o]? = some c0) (hsc0 : c0.scal = true) (hp' : p'.cells = p.cells.set o c)
    (next : VO P C ops rest Q ⟨s.n, s.env, s.rows.set id (.tree R e nl none (xs.set i p'))⟩) :
    VO P C ops (⟨none, .store T x y, ty, pos, af, none⟩ :: rest) Q s := by
  refine vo_unit (s1 := { s with rows := s.rows.set id (.tree R e nl none (xs.set i p')) }) (fun m a w hs => ?_) next
  obtain ⟨b, vals, Sf, hv, hb, hown, hf, hcell, hr, hd, hn, hz, hS, h1, h2, hw, cap, cur, hV, hheap, hle, hmx, hcs, htk⟩ := hs.elemT hx hrow hget
  have ho : o < e := by rw [← hf.1]; exact (List.getElem?_eq_some_iff.1 hc0).1
  have hna : c.isAgg = false := by cases c <;> simp_all [PV.scal, PV.isAgg]
  have hvy := hs.get y
  rw [hy] at hvy
  have hvy := hvy.pv_inv
  have hone := hvy.oneCell hna
  have hlive : liveAt s.rows id := ⟨_, hrow, rfl⟩
  have hi : i < xs.length := (List.getElem?_eq_some_iff.1 hget).1
  have hvl : vals.length = xs.length * e := hown.1
  have hlt : i * e + o < xs.length * e := by
    have := Nat.mul_le_mul_right e (show i + 1 ≤ xs.length by omega)
    rw [Nat.add_mul] at this
    omega
  have hle2 : xs.length * e ≤ cap * e := Nat.mul_le_mul_right e hle
  have hcur : i * e + o < cur.size := by omega
  have hcell2 : w.cell? ⟨b, i * e + o, none⟩ = some cur[i * e + o] := by
    rw [cell_of_row w b _ cur R (0, 0) hheap]; exact Array.getElem?_eq_getElem hcur
  have hfz : w.frozen? ⟨b, i * e + o, none⟩ = false := by simp [World.frozen?, hheap]
  have hcells : (a.eval y).cells.toList = [a.eval y] := oneCell_cells hone
  have hcs1 : (a.eval y).cells.size = 1 := by
    have := congrArg List.length hcells
    simpa using this
  let w' := w.setCell ⟨b, i * e + o, none⟩ (a.eval y)
  have hst : (store (⟨b, i * e + o, none⟩ : Addr) (a.eval y)).run P w = .ok () w' := by
    rw [run_store P w _ _ _ hone, hcell2]
    simp [hfz, w']
  have hheap' : w'.heap[b]? = some (.cells (cur.setIfInBounds (i * e + o) (a.eval y)) R (0, 0)) := heap_setCell_same w b (i * e + o) cur R _ hheap
  have hoth : ∀ k, k ≠ b → w'.heap[k]? = w.heap[k]? := fun k hk => heap_setCell_other w ⟨b, i * e + o, none⟩ k _ (fun e => hk e)
  have hg : w.grownBy w' (some b) := ⟨rfl, rfl, rfl, by simp [w', World.setCell], fun k _ hk => hoth k (fun e => hk (by rw [e]))⟩
  have hblk : (m id).S b := (hS b).2 (.inl hb)
  have hSfb : ∀ q b', Sf q b' → b' ≠ b := fun q b' h e => hn q b' h (by rw [e]; exact hb)
  have hu0 := List.getElem?_eq_getElem (show i * e + o < vals.length by omega)
  have hE : ∀ b', ¬ Sf (i * e + o) b' := by
    have hT := hr i p o c0 _ hget hc0 hu0
    cases hT with
    | scal _ _ _ _ _ h => exact h
    | gone _ _ _ h => exact h
    | sl => cases hsc0
  refine ⟨w', m, ?_, ?_⟩
  · have hadd : (⟨b, i * e + o, none⟩ : Addr).add 0 = ⟨b, i * e + o, none⟩ := rfl
    simp [execOp, Instr.storeAt, hv, Instr.sureAddr, storeVar, sizeOf, typeInfo, hinf, hsz, hcs1, hcells, storeCells, hadd, hst]
  · refine hs.storeRow hlive (fun b' e => by cases e; exact hblk) hg _ (fun hG => ?_)
    refine .tree (m id) R e nl none (xs.set i p') (vals.set (i * e + o) (a.eval y)) Sf ⟨by simp [hvl], .inr ⟨b, cap, _, by rw [List.length_set]; exact hV, Nat.zero_le _, hheap', by rw [List.length_set]; exact hle, hmx, by simp [hcs], ?_⟩⟩
      h1 h2 (fun k z hz9 => ?_) (fun k z j d u hz9 hd9 hu => .inl ?_) hd hn (by rw [List.length_set]; exact hz) hS (fun _ _ h => by cases h)
    · rw [List.length_set, Array.toList_setIfInBounds, List.take_set, htk]
    · rw [List.getElem?_set] at hz9
      split at hz9
      · cases hz9; exact fits_set hf hna hp'
      · exact hw k z hz9
    · have hkz : z.fits e := by
        rw [List.getElem?_set] at hz9
        split at hz9
        · cases hz9; exact fits_set hf hna hp'
        · exact hw k z hz9
      have hj : j < e := by rw [← hkz.1]; exact (List.getElem?_eq_some_iff.1 hd9).1
      by_cases hkj : k = i ∧ j = o
      · obtain ⟨rfl, rfl⟩ := hkj
        rw [List.getElem?_set_self hi] at hz9
        cases hz9
        rw [hp', List.getElem?_set_self (by rw [hf.1]; exact ho)] at hd9
        cases hd9
        rw [List.getElem?_set_self (by omega)] at hu
        cases hu
        exact .scal _ _ _ hsc (hvy.scal_any hsc) hE
      · rw [List.getElem?_set_ne (Ne.symm (idx_ne hj ho hkj))] at hu
        have key : ∃ z0, xs[k]? = some z0 ∧ z0.cells[j]? = some d := by
          rw [List.getElem?_set] at hz9
          split at hz9
          · rename_i e1
            subst e1
            cases hz9
            refine ⟨p, hget, ?_⟩
            rw [hp', List.getElem?_set_ne (fun e => hkj ⟨rfl, e.symm⟩)] at hd9
            exact hd9
          · exact ⟨z, hz9, hd9⟩
        obtain ⟨z0, g1, g2⟩ := key
        exact (hr k z0 j d u g1 g2 hu).mono fun b' h => hoth b' (hSfb _ b' h)

/-- A slice in a cell is read: the row remembers what the cell holds. -/
theorem vo_load_subG {x : Operand} {T id R e i o : Nat} {nl : Option Bool} {xs : List PV} {p c : PV} {D : TypeDesc} (ht : Nat.blt t s.n = true) (hx : getO s.env x = .ptr id e i o) (hrow : s.rows[id]? = some (.tree R e nl none xs))
    (hT : P.underlying T = some D) (hD : D.isRow = false) (hget : xs[i]? = some p) (hc : p.cells[o]? = some c)
    (next : ∀ u : Value, VO P C ops rest Q ⟨s.n, (t, .val u) :: s.env, s.rows.set id (.tree R e nl (some (i * e + o, some u)) xs)⟩) : VO P C ops (⟨some t, .load T x, ty, pos, af, none⟩ :: rest) Q s := by
  refine vo_valueX' (fun m a w hs => ?_) next
  obtain ⟨b, vals, Sf, hv, hb, hown, hf, hcell, hr, hd, hn, hz, hS, h1, h2, hw, cap, cur, hV, hheap, hle, hmx, hcs, htk⟩ := hs.elemT hx hrow hget
  have hlid : liveAt s.rows id := ⟨_, hrow, rfl⟩
  have ho : o < e := by rw [← hf.1]; exact (List.getElem?_eq_some_iff.1 hc).1
  have hi : i < xs.length := (List.getElem?_eq_some_iff.1 hget).1
  have hlt : i * e + o < xs.length * e := by
    have := Nat.mul_le_mul_right e (show i + 1 ≤ xs.length by omega)
    rw [Nat.add_mul] at this
    omega
  have hvl : vals.length = xs.length * e := hown.1
  have hu := List.getElem?_eq_getElem (show i * e + o < vals.length by omega)
  have hcl := hcell _ hlt
  rw [hu] at hcl
  refine ⟨vals[i * e + o], ?_, ?_⟩
  · have hagg : (isAgg T).run P w = .ok false w := by
      cases D <;> simp_all [isAgg, run_underlying hT]
    simp [execOp, Instr.loadAt, hv, Instr.sureAddr, loadVar, hagg, load, Sem.run, hcl]
  · exact hs.storeRow (w' := w) (bo := none) hlid (fun _ e => by cases e) ⟨rfl, rfl, rfl, Nat.le_refl _, fun _ _ _ => rfl⟩ _ (fun hG => RowOK.mono (m := m) hG (Nat.le_refl _) (fun _ _ => rfl)
      (.tree (m id) R e nl _ xs vals Sf hown h1 h2 hw (fun k y j c u hy hc hu => .inl (hr k y j c u hy hc hu)) hd hn hz hS (fun q u h => by cases h; exact hu)) (fun _ _ _ => rfl))
where
  vo_valueX' {s1 : Value → List Row} {op : Op} (hrun : ∀ m a w, SimM C s m a w → ∃ v, (execOp a.eval ⟨some t, op, ty, pos, af, none⟩).run P w = .ok (.value v) w ∧ SimM C ⟨s.n, s.env, s1 v⟩ m a w)
      (next : ∀ u, VO P C ops rest Q ⟨s.n, (t, .val u) :: s.env, s1 u⟩) : VO P C ops (⟨some t, op, ty, pos, af, none⟩ :: rest) Q s := by
    intro a w ⟨m, hs⟩
    obtain ⟨v, hr, hs'⟩ := hrun m a w hs
    refine wpList_plain rfl fun K hK => ?_
    unfold Oper.wp
    rw [hr, Oper.upon_value]
    exact hK _ _ (next v _ _ ⟨m, hs'.put (blt_lt ht) (.val v)⟩)

/-- A slice in a cell is lent: the function writes it, and hands back numbers. -/
theorem vo_call_subG {f : FuncId} {fn : Func} {x0 : Operand} {xr : List Operand} {Ts : Array TypeId} {id R e q : Nat} (i o : Nat) {nl nlc : Option Bool} {ec : Nat} {u : Value} {xs ys : List PV} {p : PV} (pf : List PV → PV) {args : List SV} {Rp : List SV → List PV → Prop}
    (hf : P.funcs[f]? = some fn) (hnm : (fn.name == "runtime.NumGoroutine") = false) (hbd : fn.body.isNone = false) (ht : Nat.blt t s.n = true)
    (hx0 : getO s.env x0 = .val u) (hrow : s.rows[id]? = some (.tree R e nl (some (q, some u)) xs)) (hq : q = i * e + o) (hget : xs[i]? = some p) (hco : p.cells[o]? = some (.sl nlc ec ys)) (hpf : ∀ ys', (pf ys').cells = p.cells.set o (.sl nlc ec ys'))
    (hargs : (xr.map (getO s.env)) = args) (hsc : args.all SV.isScal = true)
    (hsat : ∀ Rc, SatAt P f (.ref 0 :: args) [.tree Rc ec nlc none ys] (fun res rows' => ∃ ys', rows' = [.tree Rc ec nlc none ys'] ∧ res.all SV.isScal = true ∧ Rp res ys'))
    (next : ∀ res ys', res.all SV.isScal = true → Rp res ys' → VO P C ops rest Q ⟨s.n, (t, packS res) :: s.env, s.rows.set id (.tree R e nl none (xs.set i (pf ys')))⟩) :
    VO P C ops (⟨some t, .call ⟨.value (.func f), (x0 :: xr).toArray, Ts⟩, ty, pos, af, none⟩ :: rest) Q s := by
  intro a w ⟨m, hs⟩
  have hlid : liveAt s.rows id := ⟨_, hrow, rfl⟩
  have hR := hs.rows id _ hrow
  have hu0 : a.eval x0 = u := by
    have := hs.get x0
    rw [hx0] at this
    generalize a.eval x0 = v at this
    cases this
    rfl
  have hlt : ∀ {b : Nat}, (m id).S b → b < w.heap.size := fun hb => hs.lt hlid hb
  have hdist := hs.dist
  have hnewb := hs.newb
  have hbor := hs.bor
  generalize hmv : m id = v at *
  cases hR with
  | tree mv t' e nl h xs vals Sf hown h1 h2 hw hr hd hn hz hS hkn =>
    have hui : vals[q]? = some u := hkn q u rfl
    have hf0 := hw i p hget
    have ho : o < e := by rw [← hf0.1]; exact (List.getElem?_eq_some_iff.1 hco).1
    have hTP : TP w (.sl nlc ec ys) u (Sf q) := by
      have := (hr i p o (.sl nlc ec ys) u hget hco (by rw [← hq]; exact hui)).tpK
      rw [← hq] at this
      exact this
    have hix : i < xs.length := (List.getElem?_eq_some_iff.1 hget).1
    obtain ⟨Rc, hRc⟩ : ∃ Rc, RowOK w (fun _ _ => False) (fun _ => ⟨u, Sf q⟩) 1 ⟨u, Sf q⟩ (.tree Rc ec nlc none ys) := by
      generalize Sf q = S1 at *
      cases hTP with
      | scal _ _ _ hsc9 => simp [PV.scal] at hsc9
      | sl tc _ _ _ _ vals2 Sf2 _ hown2 g1 g2 gw gr gd gn gz gS =>
        exact ⟨tc, .tree ⟨u, S1⟩ tc ec nlc none ys vals2 Sf2 hown2 g1 g2 gw (fun k y j c u hy hc hu => .inl (gr k y j c u hy hc hu)) gd gn gz gS (fun _ _ h => by cases h)⟩
    refine wpList_plain rfl fun K hK => ?_
    unfold Oper.wp
    rw [run_call (t := t) hf hnm hbd, Oper.upon_enter]
    let C' : Ctx := ⟨w, fun _ => False, 1, fun _ => ⟨u, Sf q⟩⟩
    have hvals : ((x0 :: xr).toArray.map a.eval) = (u :: xr.map a.eval).toArray := by simp [hu0]
    have hsz : ((x0 :: xr).toArray.map a.eval).size = (SV.ref 0 :: args).length := by rw [← hargs]; simp
    have hs0 : SimM C' ⟨((x0 :: xr).toArray.map a.eval).size, enumE 0 (.ref 0 :: args), [.tree Rc ec nlc none ys]⟩ (fun _ => ⟨u, Sf q⟩) ⟨(x0 :: xr).toArray.map a.eval, []⟩ C'.w0 := {
      defs := rfl
      size := rfl
      os := rfl
      tape := rfl
      output := rfl
      hsz := Nat.le_refl _
      old := fun _ _ _ => rfl
      bor := fun _ _ => rfl
      nbl := Nat.le_refl _
      newb := fun k b hk hl _ => by
        obtain ⟨r, hr, _⟩ := hl
        have : k < 1 := (List.getElem?_eq_some_iff.1 hr).1
        change 1 ≤ k at hk
        omega
      dist := fun k1 k2 b hl1 hl2 _ _ => by
        obtain ⟨r, hr, _⟩ := hl1
        obtain ⟨r2, hr2, _⟩ := hl2
        have a1 : k1 < 1 := (List.getElem?_eq_some_iff.1 hr).1
        have a2 : k2 < 1 := (List.getElem?_eq_some_iff.1 hr2).1
        omega
      rows := fun k r hk => by
        have a1 : k < 1 := (List.getElem?_eq_some_iff.1 hk).1
        have a2 : k = 0 := by omega
        subst a2
        cases hk
        exact RowOK.mono (m := fun _ => ⟨u, Sf q⟩) (fun _ _ h => h.elim) (Nat.le_refl _) (fun _ _ => rfl) hRc (fun _ _ _ => rfl)
      env := fun k => by
        show RS w _ _ _ (look (enumE 0 (.ref 0 :: args)) k) _
        rw [look_enumE]
        simp only [Nat.zero_le, if_true, Nat.sub_zero]
        rw [hvals]
        cases k with
        | zero => exact .ref 0 (by simp)
        | succ k =>
          simp only [List.getElem?_cons_succ]
          rw [← hargs]
          simp only [List.getElem?_map]
          cases hk : xr[k]? with
          | none => exact .any _
          | some y =>
            simp only [Option.map_some, Option.getD_some]
            have e2 : ((u :: xr.map a.eval).toArray).getD (k+1) undef = a.eval y := by
              have hkl := (List.getElem?_eq_some_iff.1 hk)
              obtain ⟨hkl, e⟩ := hkl
              simp [Array.getD, hkl, e]
            rw [e2]
            have hv := hs.get y
            have hyy : (getO s.env y).isScal = true := by
              rw [List.all_eq_true] at hsc
              exact hsc _ (by rw [← hargs]; exact List.mem_map.2 ⟨y, List.mem_of_getElem? hk, rfl⟩)
            generalize getO s.env y = gy at *
            generalize a.eval y = vy at *
            cases hv with
            | pv fr p v hp => exact .pv _ _ _ (hp.scal_any hyy)
            | _ => simp [SV.isScal] at hyy }
    refine (hsat Rc C' (fun _ => ⟨u, Sf q⟩) _ rfl (fun b hb => hb.elim) hsz hs0).mono ?_
    rintro ex w' ⟨us, res, rows', m2, rfl, hus, hs', ys', rfl, hrs, hRp⟩
    have hold : ∀ k, k < w.heap.size → ¬ Sf q k → w'.heap[k]? = w.heap[k]? := fun k hk hn => hs'.old k hk (fun q _ => hn)
    have hszw : w.heap.size ≤ w'.heap.size := hs'.hsz
    have hm20 : m2 0 = ⟨u, Sf q⟩ := hs'.bor 0 (Nat.lt_succ_self 0)
    have hRc' : RowOK w' (Gd C' [.tree Rc ec nlc none ys'] m2 w') m2 1 ⟨u, Sf q⟩ (.tree Rc ec nlc none ys') := by
      have := hs'.rows 0 _ rfl
      rw [hm20] at this
      exact this
    have hTP' := TP.of_tree hRc'
    have hSid : ∀ b, Sf q b → v.S b := fun b hb => (hS b).2 (.inr ⟨q, hb⟩)
    have hG : ∀ fl b, Gd C s.rows m w fl b → Gd C (s.rows.set id (.tree R e nl none (xs.set i (pf ys')))) m w' fl b ∧ w'.heap[b]? = w.heap[b]? :=
      Gd.step (fun b => Sf q b) hszw hold (fun b hb => ⟨id, hlid, by rw [hmv]; exact hSid b hb⟩) (fun b _ ⟨j, hl, hbk⟩ => ⟨j, liveAt_set hl hlid, hbk⟩)
    have hidl : id < s.rows.length := (List.getElem?_eq_some_iff.1 hrow).1
    have hvl : vals.length = xs.length * e := hown.1
    have hnew : RowOK w' (Gd C (s.rows.set id (.tree R e nl none (xs.set i (pf ys')))) m w') m s.rows.length v (.tree R e nl none (xs.set i (pf ys'))) := by
      have hown' : w'.ownsRow 0 R e v.v xs.length vals := ownsRow_blk hown fun b hb => hold b (hlt ((hS b).2 (.inl hb))) (fun h => hn q b h hb)
      refine .tree v R e nl none _ vals Sf (by rw [List.length_set]; exact hown') h1 h2 ?_ ?_ hd hn (by rw [List.length_set]; exact hz) hS (fun _ _ h => by cases h)
      · intro k y hy
        rw [List.getElem?_set] at hy
        split at hy
        · cases hy; exact fits_set hf0 rfl (hpf ys')
        · exact hw k y hy
      · intro k y j c uu hy hc huu
        have hkz : y.fits e := by
          rw [List.getElem?_set] at hy
          split at hy
          · cases hy; exact fits_set hf0 rfl (hpf ys')
          · exact hw k y hy
        have hj : j < e := by rw [← hkz.1]; exact (List.getElem?_eq_some_iff.1 hc).1
        by_cases hkj : k = i ∧ j = o
        · obtain ⟨rfl, rfl⟩ := hkj
          rw [List.getElem?_set_self hix] at hy
          cases hy
          rw [hpf, List.getElem?_set_self (by rw [hf0.1]; exact ho)] at hc
          cases hc
          rw [← hq, hui] at huu
          cases huu
          rw [← hq]
          exact .inl hTP'
        · have key : ∃ z0, xs[k]? = some z0 ∧ z0.cells[j]? = some c := by
            rw [List.getElem?_set] at hy
            split at hy
            · rename_i e1
              subst e1
              cases hy
              refine ⟨p, hget, ?_⟩
              rw [hpf, List.getElem?_set_ne (fun e => hkj ⟨rfl, e.symm⟩)] at hc
              exact hc
            · exact ⟨y, hy, hc⟩
          obtain ⟨z0, g1, g2⟩ := key
          have h3 := (hr k z0 j c uu g1 g2 huu).tpK
          refine .inl (h3.mono fun b hb => hold b (hlt ((hS b).2 (.inr ⟨_, hb⟩))) (fun h => idx_ne hj ho hkj ?_))
          rw [← hq]
          exact hd _ _ b hb h
    have hs2 : SimM C ⟨s.n, s.env, s.rows.set id (.tree R e nl none (xs.set i (pf ys')))⟩ m a w' := {
      defs := hs.defs
      size := hs.size
      os := hs'.os.trans hs.os
      tape := hs'.tape.trans hs.tape
      output := hs'.output.trans hs.output
      hsz := Nat.le_trans hs.hsz hszw
      old := fun k hk hn2 => by
        refine (hold k (by have := hs.hsz; omega) (fun h => ?_)).trans (hs.old k hk hn2)
        by_cases hb : id < C.nb
        · exact hn2 id hb (by rw [← hbor id hb, hmv]; exact hSid k h)
        · have := hnewb id k (by omega) hlid (by rw [hmv]; exact hSid k h); omega
      bor := hbor
      nbl := by have := hs.nbl; simp; omega
      newb := fun j b hj hl hbk => hnewb j b hj (liveAt_set hl hlid) hbk
      dist := fun j1 j2 b l1 l2 b1 b2 => hdist j1 j2 b (liveAt_set l1 hlid) (liveAt_set l2 hlid) b1 b2
      rows := fun j r hq9 => by
        change (s.rows.set id (.tree R e nl none (xs.set i (pf ys'))))[j]? = some r at hq9
        show RowOK w' _ m (s.rows.set id (.tree R e nl none (xs.set i (pf ys')))).length _ r
        rw [List.length_set]
        rw [List.getElem?_set] at hq9
        split at hq9
        · rename_i e
          subst e
          simp [hidl] at hq9
          subst hq9
          rw [hmv]
          exact hnew
        · rename_i e
          exact RowOK.mono (N' := s.rows.length) (m' := m) hG (Nat.le_refl _) (fun _ _ => rfl) (hs.rows j r hq9) (fun hdd b hbk => hold b (hs.lt ⟨r, hq9, hdd⟩ hbk) (fun h => e (hdist id j b hlid ⟨r, hq9, hdd⟩ (by rw [hmv]; exact hSid b h) hbk)))
      env := fun k => by
        show RS w' _ m (s.rows.set id (.tree R e nl none (xs.set i (pf ys')))).length _ _
        rw [List.length_set]
        exact (hs.env k).mono hG (Nat.le_refl _) (fun _ _ => rfl) }
    have hres : ∀ (j : Nat) (r : SV) (G' : Bool → Nat → Prop) (N' : Nat), res[j]? = some r → RS w' G' m N' r (us.getD j undef) := by
      intro j r G' N' hj
      have hv := hs'.env j
      change RS w' _ _ _ (look (enumE 0 res) j) (us.getD j undef) at hv
      rw [look_enumE] at hv
      simp only [Nat.zero_le, if_true, Nat.sub_zero, hj, Option.getD_some] at hv
      have hrp : r.isScal = true := by rw [List.all_eq_true] at hrs; exact hrs r (List.mem_of_getElem? hj)
      generalize us.getD j undef = vv at *
      cases hv with
      | pv fr p v hp => exact .pv _ _ _ (hp.scal_any hrp)
      | _ => simp [SV.isScal] at hrp
    refine hK _ _ (next res ys' hrs hRp _ _ ⟨m, hs2.put (blt_lt ht) ?_⟩)
    match res, hus, hres with
    | [], hus, _ =>
      have : us = #[] := Array.eq_empty_of_size_eq_zero (by simpa using hus)
      subst this
      exact .tup _ _ rfl (fun j c v hc => by simp at hc)
    | [r], hus, hres =>
      have h1 : us.size = 1 := by simpa using hus
      have := hres 0 r (Gd C (s.rows.set id (.tree R e nl none (xs.set i (pf ys')))) m w') (s.rows.set id (.tree R e nl none (xs.set i (pf ys')))).length rfl
      simp only [packS, pack, h1, dif_pos]
      simpa [Array.getD, h1] using this
    | r1 :: r2 :: rs, hus, hres =>
      have h1 : us.size ≠ 1 := by rw [hus]; simp
      simp only [packS, pack, h1, dif_neg, not_false_iff]
      refine .tup _ _ hus (fun j c v hc hv => ?_)
      have := hres j c (Gd C (s.rows.set id (.tree R e nl none (xs.set i (pf ys')))) m w') (s.rows.set id (.tree R e nl none (xs.set i (pf ys')))).length hc
      have e : us.getD j undef = v := by
        rw [Array.getElem?_eq_some_iff] at hv
        obtain ⟨hlt, e⟩ := hv
        simp [Array.getD, hlt, e]
      rw [e] at this
      exact this
end
end Go.Vl

/- Numbers that are written into the cells of lists, one by one (pure). -/
namespace Go.Vl
set_option linter.unusedVariables false
set_option linter.unusedSimpArgs false

def mkS {α : Type} (f : Int → α → α) (g : Int → α → Int) : Int → List α → List α
  | _, [] => []
  | k, x :: r => f k x :: mkS f g (g k x) r
def mkN {α : Type} (g : Int → α → Int) : Int → List α → Int
  | k, [] => k
  | k, x :: r => mkN g (g k x) r
section
variable {α : Type} {f : Int → α → α} {g : Int → α → Int}
theorem mkN_snoc : ∀ (a : List α) (k : Int) (l : α), mkN g k (a ++ [l]) = g (mkN g k a) l
  | [], _, _ => rfl
  | _ :: a, _, l => mkN_snoc a _ l
theorem mkS_snoc : ∀ (a : List α) (k : Int) (l : α), mkS f g k (a ++ [l]) = mkS f g k a ++ [f (mkN g k a) l]
  | [], _, _ => rfl
  | x :: a, k, l => by show f k x :: mkS f g _ (a ++ [l]) = _; rw [mkS_snoc a]; rfl
theorem mkS_len : ∀ (a : List α) (k : Int), (mkS f g k a).length = a.length
  | [], _ => rfl
  | _ :: a, k => by show (mkS f g _ a).length + 1 = a.length + 1; rw [mkS_len a]
theorem mkN_bd {c : Int} (hc : 0 ≤ c) : ∀ (a : List α) (k : Int), (∀ x ∈ a, ∀ k, k ≤ g k x ∧ g k x ≤ k + c) → k ≤ mkN g k a ∧ mkN g k a ≤ k + c * a.length
  | [], k, _ => by show k ≤ k ∧ k ≤ k + c * ((0 : Nat) : Int); omega
  | x :: a, k, h => by
    have h1 := mkN_bd hc a (g k x) fun l hl => h l (List.mem_cons_of_mem _ hl)
    have h2 := h x List.mem_cons_self k
    show k ≤ mkN g (g k x) a ∧ mkN g (g k x) a ≤ k + c * ((a.length + 1 : Nat) : Int)
    have : c * ((a.length + 1 : Nat) : Int) = c * a.length + c := by rw [Int.natCast_add, Int.mul_add]; simp
    omega
theorem snoc_takeD {a : List α} {i : Nat} {d : α} (h : i < a.length) : a.take i ++ [a.getD i d] = a.take (i+1) := by
  rw [List.take_add_one, List.getD, List.getElem?_eq_getElem h]; rfl
theorem mkN_tk {a : List α} {k : Int} {i : Nat} {d : α} (h : i < a.length) : mkN g k (a.take (i+1)) = g (mkN g k (a.take i)) (a.getD i d) := by rw [← snoc_takeD (d := d) h, mkN_snoc]
theorem mkS_tk {a : List α} {k : Int} {i : Nat} {d : α} (h : i < a.length) : mkS f g k (a.take (i+1)) = mkS f g k (a.take i) ++ [f (mkN g k (a.take i)) (a.getD i d)] := by rw [← snoc_takeD (d := d) h, mkS_snoc]
theorem mkS2_len {a : List α} {k : Int} {i : Nat} (h : i ≤ a.length) : (mkS f g k (a.take i) ++ a.drop i).length = a.length := by
  rw [List.length_append, mkS_len, List.length_take, List.length_drop]; omega
theorem mkS2_set {a : List α} {k : Int} {i : Nat} {d : α} (h : i < a.length) : (mkS f g k (a.take i) ++ a.drop i).set i (f (mkN g k (a.take i)) (a.getD i d)) = mkS f g k (a.take (i+1)) ++ a.drop (i+1) := by
  have e : (mkS f g k (a.take i)).length = i := by rw [mkS_len, List.length_take]; omega
  rw [List.set_append_right _ _ (by omega), e, Nat.sub_self, List.drop_eq_getElem_cons h, List.set_cons_zero, mkS_tk (d := d) h, List.append_assoc]; rfl
theorem mkS2_end {a : List α} {k : Int} {i : Nat} (h : i = a.length) : mkS f g k (a.take i) ++ a.drop i = mkS f g k a := by
  subst h; rw [List.take_length, List.drop_length, List.append_nil]
theorem mkN2_end {a : List α} {k : Int} {i : Nat} (h : i = a.length) : mkN g k (a.take i) = mkN g k a := by
  subst h; rw [List.take_length]
theorem getP {fp : α → PV} {L : List α} {i : Nat} (d : α) (h : i < L.length) : (L.map fp)[i]? = some (fp (L.getD i d)) := by
  simp [List.getD, List.getElem?_eq_getElem h]
theorem getS {xs : List PV} {i : Nat} {x : PV} (h : i < xs.length) : (xs.set i x)[i]? = some x := List.getElem?_set_self h
theorem len_set_lt {xs : List PV} {i : Nat} {x : PV} (h : i < xs.length) : i < (xs.set i x).length := by rw [List.length_set]; exact h
theorem len_map_lt {fp : α → PV} {L : List α} {i : Nat} (h : i < L.length) : i < (L.map fp).length := by rw [List.length_map]; exact h
end
theorem rowT_eq {el : TypeId} {e : Nat} {nl : Option Bool} {h : Option (Nat × Option Value)} {xs ys : List PV} (hh : xs = ys) : [Row.tree el e nl h xs] = [Row.tree el e nl h ys] := by rw [hh]
end Go.Vl
namespace Go.Vl
end Go.Vl

namespace Go.Vl
set_option linter.unusedVariables false
set_option linter.unusedSimpArgs false
open Go.Proofs

def fA (k : Int) (_ : AttrM) : AttrM := ⟨k, k + 1, k + 1 + 1⟩
def gA (k : Int) (_ : AttrM) : Int := k + 1 + 1 + 1
theorem mkA_bd (a : List AttrM) (k : Int) : k ≤ mkN gA k a ∧ mkN gA k a ≤ k + 3 * a.length := mkN_bd (by omega) a k fun x _ k => by unfold gA; omega
def fP (k : Int) (_ : Int × Int) : Int × Int := (k, k + 1)
def gP (k : Int) (_ : Int × Int) : Int := k + 1 + 1
theorem mkP_bd (a : List (Int × Int)) (k : Int) : k ≤ mkN gP k a ∧ mkN gP k a ≤ k + 2 * a.length := mkN_bd (by omega) a k fun x _ k => by unfold gP; omega

theorem markAttrS_sat {Rc : TypeId} {nl : Option Bool} {a : List AttrM} {k : Int} (ha : a.length ≤ 2000000) (hk : 0 ≤ k ∧ k < 1000000000000000) : SatAt Try.prog 129 [.ref 0, i64 k] [.tree Rc 3 nl none (a.map attrP)] (fun res rows => ∃ ys, rows = [.tree Rc 3 nl none ys] ∧ res.all SV.isScal = true ∧ (res = [i64 (mkN gA k a)] ∧ ys = (mkS fA gA k a).map attrP)) := by
 refine sat_entry_G (rs := [(4, none)]) Try.func129 rfl rfl (Nat.le_of_ble_eq_true rfl) (Nat.le_of_ble_eq_true rfl) (resTs1 trivial) fun C hC => ?_
 rw [Try.ntmps129]
 replace hC : C.nb = 1 := hC
 refine vc_seq fun K1 hK1 => ?_
 refine vc_region ?_
 refine vo_assign_pv rfl rfl ?_
 refine vo_nil ?_
 refine hK1 _ ?_
 refine vc_seq fun K2 hK2 => ?_
 refine vc_seq fun K3 hK3 => ?_
 refine vc_region ?_
 refine vo_assign_pv rfl rfl ?_
 refine vo_nil ?_
 refine hK3 _ ?_
 refine vc_block ?_
 refine vc_stM ?_
 refine vc_loopE [] [0, 1, 5] [0] _ _ (fun mz vs rs => ∃ (i : Nat) (y : Int), mz = a.length - i ∧ (i ≤ a.length) ∧ (y = mkN gA k (a.take i)) ∧ vs = [.ref 0, i64 y, i64 i] ∧ rs = [Row.tree Rc 3 nl none ((mkS fA gA k (a.take i) ++ a.drop i).map attrP)]) (a.length) rfl rfl (le_len hC rfl) ⟨rfl, rfl, rfl⟩ rfl ⟨0, k, rfl, Nat.zero_le _, rfl, rfl, rfl⟩ ?_
 rintro mz vs rs - - ⟨i, y, rfl, hi, hy, rfl, rfl⟩
 refine vc_stM ?_
 have hL := mkS2_len (f := fA) (g := gA) (k := k) hi
 have hL2 : (mkS fA gA k (a.take i)).length = i := by rw [mkS_len, List.length_take]; omega
 have hb := mkA_bd (a.take i) k
 rw [← hy] at hb
 have hb2 : ((a.take i).length : Int) ≤ 2000000 := by rw [List.length_take]; omega
 refine vc_seq fun K4 hK4 => ?_
 refine vc_seq fun K5 hK5 => ?_
 refine vc_region ?_
 refine vo_move_pv rfl rfl ?_
 refine vo_move_ref rfl rfl ?_
 refine vo_len_ref rfl rfl rfl Try.underlying99 ?_
 refine vo_binI rfl rfl rfl rfl trivial ?_
 refine vo_nil ?_
 refine hK5 _ ?_
 refine vc_cond rfl (fun hc1 => ?_) (fun hc1 => ?_)
 ·try simp only [zq0, zq1, zq2, zq3, zq4, zq5, zq6, zq7, zq8, zq9, zqa, zqb, zqc, zqd, zqe, zqf] at hc1
  refine vc_skip ?_
  refine hK4 _ ?_
  refine vc_seq fun K6 hK6 => ?_
  refine vc_block ?_
  refine vc_seq fun K7 hK7 => ?_
  refine vc_region ?_
  refine vo_move_ref rfl rfl ?_
  refine vo_move_pv rfl rfl ?_
  refine vo_move_pv rfl rfl ?_
  refine vo_index_ref rfl rfl rfl rfl E99.und inf101 sz101 sd sd ?_
  try simp only [Int.toNat_natCast]
  refine vo_fieldAddr_ptr rfl rfl Try.underlying101 rfl inf3 (by rw [sz3]; decide) ?_
  try simp only [Nat.zero_add]
  refine vo_store_treeC (p' := .agg _) rfl rfl rfl rfl inf3 sz3 (getP (L := mkS fA gA k (a.take i) ++ a.drop i) ⟨0, 0, 0⟩ (by rw [mkS2_len (by omega)]; omega)) rfl rfl rfl ?_
  try simp only [PV.cells, List.set_cons_zero, List.set_cons_succ, Int.toNat_natCast, Int.toNat_zero]
  refine vo_stM ?_
  refine vo_nil ?_
  refine hK7 _ ?_
  refine vc_seq fun K8 hK8 => ?_
  refine vc_region ?_
  refine vo_move_pv rfl rfl ?_
  refine vo_binI rfl rfl rfl rfl sd ?_
  refine vo_assign_pv rfl rfl ?_
  refine vo_nil ?_
  refine hK8 _ ?_
  refine vc_seq fun K9 hK9 => ?_
  refine vc_region ?_
  refine vo_move_ref rfl rfl ?_
  refine vo_move_pv rfl rfl ?_
  refine vo_move_pv rfl rfl ?_
  refine vo_index_ref rfl rfl rfl rfl E99.und inf101 sz101 sd sd ?_
  try simp only [Int.toNat_natCast]
  refine vo_fieldAddr_ptr rfl rfl Try.underlying101 rfl inf3 (by rw [sz3]; decide) ?_
  try simp only [Nat.zero_add]
  refine vo_store_treeC (p' := .agg _) rfl rfl rfl rfl inf3 sz3 (getS (len_map_lt (by rw [mkS2_len (by omega)]; omega))) rfl rfl rfl ?_
  try simp only [PV.cells, List.set_cons_zero, List.set_cons_succ, Int.toNat_natCast, Int.toNat_zero]
  refine vo_stM ?_
  refine vo_nil ?_
  refine hK9 _ ?_
  refine vc_seq fun K10 hK10 => ?_
  refine vc_region ?_
  refine vo_move_pv rfl rfl ?_
  refine vo_binI rfl rfl rfl rfl sd ?_
  refine vo_assign_pv rfl rfl ?_
  refine vo_nil ?_
  refine hK10 _ ?_
  refine vc_seq fun K11 hK11 => ?_
  refine vc_region ?_
  refine vo_move_ref rfl rfl ?_
  refine vo_move_pv rfl rfl ?_
  refine vo_move_pv rfl rfl ?_
  refine vo_index_ref rfl rfl rfl rfl E99.und inf101 sz101 sd sd ?_
  try simp only [Int.toNat_natCast]
  refine vo_fieldAddr_ptr rfl rfl Try.underlying101 rfl inf3 (by rw [sz3]; decide) ?_
  try simp only [Nat.zero_add]
  refine vo_store_treeC (p' := .agg _) rfl rfl rfl rfl inf3 sz3 (getS (len_set_lt (len_map_lt (by rw [mkS2_len (by omega)]; omega)))) rfl rfl rfl ?_
  try simp only [PV.cells, List.set_cons_zero, List.set_cons_succ, Int.toNat_natCast, Int.toNat_zero]
  refine vo_stM ?_
  refine vo_nil ?_
  refine hK11 _ ?_
  refine vc_region ?_
  refine vo_move_pv rfl rfl ?_
  refine vo_binI rfl rfl rfl rfl sd ?_
  refine vo_assign_pv rfl rfl ?_
  refine vo_nil ?_
  refine hK6 _ ?_
  refine vc_region ?_
  refine vo_move_pv rfl rfl ?_
  refine vo_binI rfl rfl rfl rfl sd ?_
  refine vo_assign_pv rfl rfl ?_
  refine vo_nil ?_
  change againE _ _ _ _ _ _ _ _ _ _
  refine againE_mk rfl rfl rfl rfl rfl rfl ⟨_, ?_, i + 1, _, rfl, ?_, ?_, rfl, (rowT_eq (by rw [← mkS2_set (d := ⟨0, 0, 0⟩) (by omega), ← hy]; simp [List.map_set, List.set_set, fA]))⟩
  ·omega
  ·omega
  ·rw [mkN_tk (d := ⟨0, 0, 0⟩) (by omega), ← hy]; rfl
 ·try simp only [zq0, zq1, zq2, zq3, zq4, zq5, zq6, zq7, zq8, zq9, zqa, zqb, zqc, zqd, zqe, zqf] at hc1
  refine vc_exit ?_
  refine hK2 _ ?_
  refine vc_seq fun K12 hK12 => ?_
  refine vc_region ?_
  refine vo_move_pv rfl rfl ?_
  refine vo_assign_pv rfl rfl ?_
  refine vo_nil ?_
  refine hK12 _ ?_
  refine vc_ret ?_
  change retQ _ _ _ _ _
  refine retQ_sel [] (srows := []) (.inr rfl) hC rfl rfl rfl rfl rfl rfl rfl ?_
  have e1 : i = a.length := by omega
  rw [hy, mkN2_end e1, mkS2_end e1]
  exact ⟨_, rfl, rfl, rfl, rfl⟩


theorem markPairS_sat {Rc : TypeId} {nl : Option Bool} {a : List (Int × Int)} {k : Int} (ha : a.length ≤ 2000000) (hk : 0 ≤ k ∧ k < 1000000000000000) : SatAt Try.prog 130 [.ref 0, i64 k] [.tree Rc 2 nl none (a.map pairP)] (fun res rows => ∃ ys, rows = [.tree Rc 2 nl none ys] ∧ res.all SV.isScal = true ∧ (res = [i64 (mkN gP k a)] ∧ ys = (mkS fP gP k a).map pairP)) := by
 refine sat_entry_G (rs := [(4, none)]) Try.func130 rfl rfl (Nat.le_of_ble_eq_true rfl) (Nat.le_of_ble_eq_true rfl) (resTs1 trivial) fun C hC => ?_
 rw [Try.ntmps130]
 replace hC : C.nb = 1 := hC
 refine vc_seq fun K1 hK1 => ?_
 refine vc_region ?_
 refine vo_assign_pv rfl rfl ?_
 refine vo_nil ?_
 refine hK1 _ ?_
 refine vc_seq fun K2 hK2 => ?_
 refine vc_seq fun K3 hK3 => ?_
 refine vc_region ?_
 refine vo_assign_pv rfl rfl ?_
 refine vo_nil ?_
 refine hK3 _ ?_
 refine vc_block ?_
 refine vc_stM ?_
 refine vc_loopE [] [0, 1, 5] [0] _ _ (fun mz vs rs => ∃ (i : Nat) (y : Int), mz = a.length - i ∧ (i ≤ a.length) ∧ (y = mkN gP k (a.take i)) ∧ vs = [.ref 0, i64 y, i64 i] ∧ rs = [Row.tree Rc 2 nl none ((mkS fP gP k (a.take i) ++ a.drop i).map pairP)]) (a.length) rfl rfl (le_len hC rfl) ⟨rfl, rfl, rfl⟩ rfl ⟨0, k, rfl, Nat.zero_le _, rfl, rfl, rfl⟩ ?_
 rintro mz vs rs - - ⟨i, y, rfl, hi, hy, rfl, rfl⟩
 refine vc_stM ?_
 have hL := mkS2_len (f := fP) (g := gP) (k := k) hi
 have hL2 : (mkS fP gP k (a.take i)).length = i := by rw [mkS_len, List.length_take]; omega
 have hb := mkP_bd (a.take i) k
 rw [← hy] at hb
 have hb2 : ((a.take i).length : Int) ≤ 2000000 := by rw [List.length_take]; omega
 refine vc_seq fun K4 hK4 => ?_
 refine vc_seq fun K5 hK5 => ?_
 refine vc_region ?_
 refine vo_move_pv rfl rfl ?_
 refine vo_move_ref rfl rfl ?_
 refine vo_len_ref rfl rfl rfl Try.underlying136 ?_
 refine vo_binI rfl rfl rfl rfl trivial ?_
 refine vo_nil ?_
 refine hK5 _ ?_
 refine vc_cond rfl (fun hc1 => ?_) (fun hc1 => ?_)
 ·try simp only [zq0, zq1, zq2, zq3, zq4, zq5, zq6, zq7, zq8, zq9, zqa, zqb, zqc, zqd, zqe, zqf] at hc1
  refine vc_skip ?_
  refine hK4 _ ?_
  refine vc_seq fun K6 hK6 => ?_
  refine vc_block ?_
  refine vc_seq fun K7 hK7 => ?_
  refine vc_region ?_
  refine vo_move_ref rfl rfl ?_
  refine vo_move_pv rfl rfl ?_
  refine vo_move_pv rfl rfl ?_
  refine vo_index_ref rfl rfl rfl rfl E136.und inf173 sz173 sd sd ?_
  try simp only [Int.toNat_natCast]
  refine vo_fieldAddr_ptr rfl rfl Try.underlying173 rfl inf3 (by rw [sz3]; decide) ?_
  try simp only [Nat.zero_add]
  refine vo_store_treeC (p' := .agg _) rfl rfl rfl rfl inf3 sz3 (getP (L := mkS fP gP k (a.take i) ++ a.drop i) (0, 0) (by rw [mkS2_len (by omega)]; omega)) rfl rfl rfl ?_
  try simp only [PV.cells, List.set_cons_zero, List.set_cons_succ, Int.toNat_natCast, Int.toNat_zero]
  refine vo_stM ?_
  refine vo_nil ?_
  refine hK7 _ ?_
  refine vc_seq fun K8 hK8 => ?_
  refine vc_region ?_
  refine vo_move_pv rfl rfl ?_
  refine vo_binI rfl rfl rfl rfl sd ?_
  refine vo_assign_pv rfl rfl ?_
  refine vo_nil ?_
  refine hK8 _ ?_
  refine vc_seq fun K9 hK9 => ?_
  refine vc_region ?_
  refine vo_move_ref rfl rfl ?_
  refine vo_move_pv rfl rfl ?_
  refine vo_move_pv rfl rfl ?_
  refine vo_index_ref rfl rfl rfl rfl E136.und inf173 sz173 sd sd ?_
  try simp only [Int.toNat_natCast]
  refine vo_fieldAddr_ptr rfl rfl Try.underlying173 rfl inf3 (by rw [sz3]; decide) ?_
  try simp only [Nat.zero_add]
  refine vo_store_treeC (p' := .agg _) rfl rfl rfl rfl inf3 sz3 (getS (len_map_lt (by rw [mkS2_len (by omega)]; omega))) rfl rfl rfl ?_
  try simp only [PV.cells, List.set_cons_zero, List.set_cons_succ, Int.toNat_natCast, Int.toNat_zero]
  refine vo_stM ?_
  refine vo_nil ?_
  refine hK9 _ ?_
  refine vc_region ?_
  refine vo_move_pv rfl rfl ?_
  refine vo_binI rfl rfl rfl rfl sd ?_
  refine vo_assign_pv rfl rfl ?_
  refine vo_nil ?_
  refine hK6 _ ?_
  refine vc_region ?_
  refine vo_move_pv rfl rfl ?_
  refine vo_binI rfl rfl rfl rfl sd ?_
  refine vo_assign_pv rfl rfl ?_
  refine vo_nil ?_
  change againE _ _ _ _ _ _ _ _ _ _
  refine againE_mk rfl rfl rfl rfl rfl rfl ⟨_, ?_, i + 1, _, rfl, ?_, ?_, rfl, (rowT_eq (by rw [← mkS2_set (d := (0, 0)) (by omega), ← hy]; simp [List.map_set, List.set_set, fP]))⟩
  ·omega
  ·omega
  ·rw [mkN_tk (d := (0, 0)) (by omega), ← hy]; rfl
 ·try simp only [zq0, zq1, zq2, zq3, zq4, zq5, zq6, zq7, zq8, zq9, zqa, zqb, zqc, zqd, zqe, zqf] at hc1
  refine vc_exit ?_
  refine hK2 _ ?_
  refine vc_seq fun K10 hK10 => ?_
  refine vc_region ?_
  refine vo_move_pv rfl rfl ?_
  refine vo_assign_pv rfl rfl ?_
  refine vo_nil ?_
  refine hK10 _ ?_
  refine vc_ret ?_
  change retQ _ _ _ _ _
  refine retQ_sel [] (srows := []) (.inr rfl) hC rfl rfl rfl rfl rfl rfl rfl ?_
  have e1 : i = a.length := by omega
  rw [hy, mkN2_end e1, mkS2_end e1]
  exact ⟨_, rfl, rfl, rfl, rfl⟩

end Go.Vl

namespace Go.Vl
set_option linter.unusedVariables false
set_option linter.unusedSimpArgs false
open Go.Proofs

theorem set_lensA {L : List (List AttrM)} (h : ∀ l ∈ L, l.length ≤ 2000000) {i : Nat} {l : List AttrM} (hl : l.length ≤ 2000000) : ∀ x ∈ L.set i l, x.length ≤ 2000000 := by
  intro y hy
  rcases List.mem_or_eq_of_mem_set hy with h1 | h1
  · exact h y h1
  · rw [h1]; exact hl
theorem set_lensO {L : List ObjM} (h : ∀ o ∈ L, SO o) {i : Nat} {o : ObjM} (hl : SO o) : ∀ x ∈ L.set i o, SO x := by
  intro y hy
  rcases List.mem_or_eq_of_mem_set hy with h1 | h1
  · exact h y h1
  · rw [h1]; exact hl

theorem markAttrSS_sat {R : TypeId} {nl : Option Bool} {L : List (List AttrM)} {k : Int} (hL : L.length ≤ 2000000) (hl : ∀ l ∈ L, l.length ≤ 2000000) (hk : 0 ≤ k ∧ k < 100000000000000) : SatAt Try.prog 95 [.ref 0, i64 k] [.tree R 1 nl none (L.map attrsP)] (fun res rows => ∃ (v : Int) (ys : List PV), (k ≤ v ∧ v ≤ k + 6000000 * L.length) ∧ res = [i64 v] ∧ rows = [.tree R 1 nl none ys]) := by
 refine sat_entry_G (rs := [(4, none)]) Try.func95 rfl rfl (Nat.le_of_ble_eq_true rfl) (Nat.le_of_ble_eq_true rfl) (resTs1 trivial) fun C hC => ?_
 rw [Try.ntmps95]
 replace hC : C.nb = 1 := hC
 refine vc_seq fun K1 hK1 => ?_
 refine vc_region ?_
 refine vo_assign_pv rfl rfl ?_
 refine vo_nil ?_
 refine hK1 _ ?_
 refine vc_seq fun K2 hK2 => ?_
 refine vc_seq fun K3 hK3 => ?_
 refine vc_region ?_
 refine vo_assign_pv rfl rfl ?_
 refine vo_nil ?_
 refine hK3 _ ?_
 refine vc_block ?_
 refine vc_stM ?_
 refine vc_loopE [] [0, 1, 5] [0] _ _ (fun mz vs rs => ∃ (i : Nat) (y : Int) (X : List (List AttrM)), mz = L.length - i ∧ (i ≤ L.length) ∧ (X.length = L.length) ∧ (∀ l ∈ X, l.length ≤ 2000000) ∧ (k ≤ y ∧ y ≤ k + 6000000 * i) ∧ vs = [.ref 0, i64 y, i64 i] ∧ rs = [Row.tree R 1 nl none (X.map attrsP)]) (L.length) rfl rfl (le_len hC rfl) ⟨rfl, rfl, rfl⟩ rfl ⟨0, k, L, rfl, Nat.zero_le _, rfl, hl, (by omega), rfl, rfl⟩ ?_
 rintro mz vs rs - - ⟨i, y, X, rfl, hi, hXl, hX, hy, rfl, rfl⟩
 refine vc_stM ?_
 have hak := getD_all (p := fun l : List AttrM => l.length ≤ 2000000) hX [] (by simp) i
 have hbd := mkA_bd (X.getD i []) y
 have hml : (mkS fA gA y (X.getD i [])).length = (X.getD i []).length := mkS_len _ _
 refine vc_seq fun K4 hK4 => ?_
 refine vc_seq fun K5 hK5 => ?_
 refine vc_region ?_
 refine vo_move_pv rfl rfl ?_
 refine vo_move_ref rfl rfl ?_
 refine vo_len_ref rfl rfl rfl Try.underlying66 ?_
 refine vo_binI rfl rfl rfl rfl trivial ?_
 refine vo_nil ?_
 refine hK5 _ ?_
 refine vc_cond rfl (fun hc1 => ?_) (fun hc1 => ?_)
 ·try simp only [zq0, zq1, zq2, zq3, zq4, zq5, zq6, zq7, zq8, zq9, zqa, zqb, zqc, zqd, zqe, zqf] at hc1
  refine vc_skip ?_
  refine hK4 _ ?_
  refine vc_seq fun K6 hK6 => ?_
  refine vc_block ?_
  refine vc_region ?_
  refine vo_move_ref rfl rfl ?_
  refine vo_move_pv rfl rfl ?_
  refine vo_index_ref rfl rfl rfl rfl E66.und inf99 sz99 sd sd ?_
  try simp only [Int.toNat_natCast]
  refine vo_load_subG rfl rfl rfl Try.underlying99 rfl (getP (L := X) [] (by omega)) rfl fun u15 => ?_
  refine vo_stM ?_
  refine vo_move_pv rfl rfl ?_
  refine vo_call_subG i 0 (fun ys => PV.sl none 3 ys) (id := 0) Try.func129 rfl rfl rfl rfl rfl (by first | rfl | omega) (getP (L := X) [] (by omega)) rfl (fun _ => rfl) rfl rfl (fun Rc => markAttrS_sat (Rc := Rc) (a := X.getD i []) (k := y) (by omega) (by omega)) ?_
  rintro _ _ - ⟨rfl, rfl⟩
  refine vo_stM ?_
  try simp only [Int.toNat_natCast]
  refine vo_assign_pv rfl rfl ?_
  refine vo_nil ?_
  refine hK6 _ ?_
  refine vc_region ?_
  refine vo_move_pv rfl rfl ?_
  refine vo_binI rfl rfl rfl rfl sd ?_
  refine vo_assign_pv rfl rfl ?_
  refine vo_nil ?_
  change againE _ _ _ _ _ _ _ _ _ _
  refine againE_mk rfl rfl rfl rfl rfl rfl ⟨_, ?_, i + 1, _, X.set i (mkS fA gA y (X.getD i [])), rfl, ?_, ?_, ?_, ?_, rfl, (rowT_eq (by rw [List.map_set]))⟩
  ·omega
  ·omega
  ·rw [List.length_set]; exact hXl
  ·exact set_lensA hX (by rw [hml]; exact hak)
  ·omega
 ·try simp only [zq0, zq1, zq2, zq3, zq4, zq5, zq6, zq7, zq8, zq9, zqa, zqb, zqc, zqd, zqe, zqf] at hc1
  refine vc_exit ?_
  refine hK2 _ ?_
  refine vc_seq fun K7 hK7 => ?_
  refine vc_region ?_
  refine vo_move_pv rfl rfl ?_
  refine vo_assign_pv rfl rfl ?_
  refine vo_nil ?_
  refine hK7 _ ?_
  refine vc_ret ?_
  change retQ _ _ _ _ _
  refine retQ_sel [] (srows := []) (.inr rfl) hC rfl rfl rfl rfl rfl rfl rfl ?_
  exact ⟨_, _, ⟨by omega, by omega⟩, rfl, rfl⟩


theorem markObjectS_sat {R : TypeId} {nl : Option Bool} {L : List ObjM} {k : Int} (hL : L.length ≤ 2000000) (hl : ∀ o ∈ L, SO o) (hk : 0 ≤ k ∧ k < 100000000000000) : SatAt Try.prog 96 [.ref 0, i64 k] [.tree R 2 nl none (L.map objP)] (fun res rows => ∃ (v : Int) (ys : List PV), (k ≤ v ∧ v ≤ k + 6000000 * L.length) ∧ res = [i64 v] ∧ rows = [.tree R 2 nl none ys]) := by
 refine sat_entry_G (rs := [(4, none)]) Try.func96 rfl rfl (Nat.le_of_ble_eq_true rfl) (Nat.le_of_ble_eq_true rfl) (resTs1 trivial) fun C hC => ?_
 rw [Try.ntmps96]
 replace hC : C.nb = 1 := hC
 refine vc_seq fun K1 hK1 => ?_
 refine vc_region ?_
 refine vo_assign_pv rfl rfl ?_
 refine vo_nil ?_
 refine hK1 _ ?_
 refine vc_seq fun K2 hK2 => ?_
 refine vc_seq fun K3 hK3 => ?_
 refine vc_region ?_
 refine vo_assign_pv rfl rfl ?_
 refine vo_nil ?_
 refine hK3 _ ?_
 refine vc_block ?_
 refine vc_stM ?_
 refine vc_loopE [] [0, 1, 5] [0] _ _ (fun mz vs rs => ∃ (i : Nat) (y : Int) (X : List ObjM), mz = L.length - i ∧ (i ≤ L.length) ∧ (X.length = L.length) ∧ (∀ o ∈ X, SO o) ∧ (k ≤ y ∧ y ≤ k + 6000000 * i) ∧ vs = [.ref 0, i64 y, i64 i] ∧ rs = [Row.tree R 2 nl none (X.map objP)]) (L.length) rfl rfl (le_len hC rfl) ⟨rfl, rfl, rfl⟩ rfl ⟨0, k, L, rfl, Nat.zero_le _, rfl, hl, (by omega), rfl, rfl⟩ ?_
 rintro mz vs rs - - ⟨i, y, X, rfl, hi, hXl, hX, hy, rfl, rfl⟩
 refine vc_stM ?_
 have hak := getD_all hX _ SO_zero i
 have hbd := mkP_bd (X.getD i ⟨0, []⟩).pairs (y + 1)
 have hak2 : (X.getD i ⟨0, []⟩).pairs.length ≤ 2000000 := hak
 have hml : (mkS fP gP (y + 1) (X.getD i ⟨0, []⟩).pairs).length = (X.getD i ⟨0, []⟩).pairs.length := mkS_len _ _
 refine vc_seq fun K4 hK4 => ?_
 refine vc_seq fun K5 hK5 => ?_
 refine vc_region ?_
 refine vo_move_pv rfl rfl ?_
 refine vo_move_ref rfl rfl ?_
 refine vo_len_ref rfl rfl rfl Try.underlying67 ?_
 refine vo_binI rfl rfl rfl rfl trivial ?_
 refine vo_nil ?_
 refine hK5 _ ?_
 refine vc_cond rfl (fun hc1 => ?_) (fun hc1 => ?_)
 ·try simp only [zq0, zq1, zq2, zq3, zq4, zq5, zq6, zq7, zq8, zq9, zqa, zqb, zqc, zqd, zqe, zqf] at hc1
  refine vc_skip ?_
  refine hK4 _ ?_
  refine vc_seq fun K6 hK6 => ?_
  refine vc_block ?_
  refine vc_seq fun K7 hK7 => ?_
  refine vc_region ?_
  refine vo_move_ref rfl rfl ?_
  refine vo_move_pv rfl rfl ?_
  refine vo_move_pv rfl rfl ?_
  refine vo_index_ref rfl rfl rfl rfl E67.und inf138 sz138 sd sd ?_
  try simp only [Int.toNat_natCast]
  refine vo_fieldAddr_ptr rfl rfl Try.underlying138 rfl inf3 (by rw [sz3]; decide) ?_
  try simp only [Nat.zero_add]
  refine vo_store_treeC (p' := .agg _) rfl rfl rfl rfl inf3 sz3 (getP (L := X) ⟨0, []⟩ (by omega)) rfl rfl rfl ?_
  try simp only [PV.cells, List.set_cons_zero, List.set_cons_succ, Int.toNat_natCast, Int.toNat_zero]
  refine vo_stM ?_
  refine vo_nil ?_
  refine hK7 _ ?_
  refine vc_seq fun K8 hK8 => ?_
  refine vc_region ?_
  refine vo_move_pv rfl rfl ?_
  refine vo_binI rfl rfl rfl rfl sd ?_
  refine vo_assign_pv rfl rfl ?_
  refine vo_nil ?_
  refine hK8 _ ?_
  refine vc_region ?_
  refine vo_move_ref rfl rfl ?_
  refine vo_move_pv rfl rfl ?_
  refine vo_index_ref rfl rfl rfl rfl E67.und inf138 sz138 sd sd ?_
  try simp only [Int.toNat_natCast]
  refine vo_fieldAddr_ptr rfl rfl Try.underlying138 rfl inf136 (by rw [sz136]; decide) ?_
  try simp only [Nat.zero_add]
  refine vo_load_subG rfl rfl rfl Try.underlying136 rfl (getS (len_map_lt (by omega))) rfl fun u23 => ?_
  refine vo_stM ?_
  refine vo_move_pv rfl rfl ?_
  refine vo_call_subG i 1 (fun ys => PV.agg [.int .i64 y, .sl none 2 ys]) (id := 0) Try.func130 rfl rfl rfl rfl rfl (by first | rfl | omega) (getS (len_map_lt (by omega))) rfl (fun _ => rfl) rfl rfl (fun Rc => markPairS_sat (Rc := Rc) (a := (X.getD i ⟨0, []⟩).pairs) (k := y + 1) (by unfold SO at hak; omega) (by omega)) ?_
  rintro _ _ - ⟨rfl, rfl⟩
  refine vo_stM ?_
  try simp only [Int.toNat_natCast]
  refine vo_assign_pv rfl rfl ?_
  refine vo_nil ?_
  refine hK6 _ ?_
  refine vc_region ?_
  refine vo_move_pv rfl rfl ?_
  refine vo_binI rfl rfl rfl rfl sd ?_
  refine vo_assign_pv rfl rfl ?_
  refine vo_nil ?_
  change againE _ _ _ _ _ _ _ _ _ _
  refine againE_mk rfl rfl rfl rfl rfl rfl ⟨_, ?_, i + 1, _, X.set i ⟨y, mkS fP gP (y + 1) (X.getD i ⟨0, []⟩).pairs⟩, rfl, ?_, ?_, ?_, ?_, rfl, (rowT_eq (by rw [List.map_set]; simp [List.set_set]))⟩
  ·omega
  ·omega
  ·rw [List.length_set]; exact hXl
  ·exact set_lensO hX (by unfold SO; rw [hml]; exact hak2)
  ·omega
 ·try simp only [zq0, zq1, zq2, zq3, zq4, zq5, zq6, zq7, zq8, zq9, zqa, zqb, zqc, zqd, zqe, zqf] at hc1
  refine vc_exit ?_
  refine hK2 _ ?_
  refine vc_seq fun K9 hK9 => ?_
  refine vc_region ?_
  refine vo_move_pv rfl rfl ?_
  refine vo_assign_pv rfl rfl ?_
  refine vo_nil ?_
  refine hK9 _ ?_
  refine vc_ret ?_
  change retQ _ _ _ _ _
  refine retQ_sel [] (srows := []) (.inr rfl) hC rfl rfl rfl rfl rfl rfl rfl ?_
  exact ⟨_, _, ⟨by omega, by omega⟩, rfl, rfl⟩

end Go.Vl

/- A cell of a variable that holds a nil slice holds a row of the call's own that is empty. -/
namespace Go.Vl
set_option linter.unusedVariables false
set_option linter.unusedSimpArgs false
open Go.RowKit
section
variable {P : Program} {C : Ctx} {Q : Go.Exit → St → Prop} {s : St} {ops : Array Oper}

end
end Go.Vl

/- Calls by any operation that enters a function: by name, through an interface, of a value. -/
namespace Go.Vl
set_option linter.unusedVariables false
set_option linter.unusedSimpArgs false
open Go.RowKit
section
variable {P : Program} {C : Ctx} {Q : Go.Exit → St → Prop} {s : St}

end
end Go.Vl

namespace Go.Vl
open Go.RowKit
section
variable {P : Program} {C : Ctx} {Q : Go.Exit → St → Prop} {s : St} {ops : Array Oper} {rest : List Oper} {t : Nat} {ty : TypeId} {pos : String} {af : Array Edge}

/-- Which function a method is, for a dynamic type; and what it is given. -/
def MethAt (P : Program) (T : TypeId) (name : String) (p : PV) (F : FuncId) (q : PV) : Prop :=
  ∀ (w : World) (G : Nat → Prop) (v : Value), RP w G p v → ∃ r, (Go.method (P.types.size + Made.depth) T v name).run P w = .ok (F, r) w ∧ RP w G q r

/-- A value goes into an interface. -/
theorem lt_makeIface {x : Operand} {T : TypeId} {f : Bool} {p : PV} {D : TypeDesc} (hx : getO s.env x = .pv f p) (hT : P.underlying T = some D) (hD : (match D with | .interface _ => true | _ => false) = false) :
    Lt P C s ⟨some t, .makeInterface T x, ty, pos, af, none⟩ (.pv f (.ifc T p)) := by
  intro m a w hs
  have hv := hs.get x
  rw [hx] at hv
  refine ⟨.iface T (a.eval x), fun w' hw' => ?_, .pv _ _ _ (.ifc _ _ _ hv.pv_inv)⟩
  cases D <;> simp_all [execOp, Instr.makeInterface, run_underlying hT]

theorem vo_makeIface {x : Operand} {T : TypeId} {f : Bool} {p : PV} {D : TypeDesc} (ht : Nat.blt t s.n = true) (hx : getO s.env x = .pv f p) (hT : P.underlying T = some D) (hD : (match D with | .interface _ => true | _ => false) = false)
    (next : VO P C ops rest Q (s.put t (.pv f (.ifc T p)))) : VO P C ops (⟨some t, .makeInterface T x, ty, pos, af, none⟩ :: rest) Q s := vo_pure ht (lt_makeIface hx hT hD) next

/-- An interface is asserted to be another one: it is. -/
theorem vo_assert_yes {x : Operand} {T A xt : TypeId} {f : Bool} {p : PV} {want : Array (String × TypeId)} {inf : TypeInfo} (ht : Nat.blt t s.n = true) (hx : getO s.env x = .pv f (.ifc T p)) (hA : P.underlying A = some (.interface want)) (hinf : P.info? T = some inf)
    (hm : Instr.missingMethod want inf.methods = none) (next : VO P C ops rest Q (s.put t (.tup [.pv f (.ifc T p), .pv true (.bool true)]))) :
    VO P C ops (⟨some t, .typeAssert x xt A true, ty, pos, af, none⟩ :: rest) Q s := by
  refine vo_pure ht (fun m a w hs => ?_) next
  have hv := hs.get x
  rw [hx] at hv
  have hv := hv.pv_inv
  obtain ⟨v, hva, hp⟩ : ∃ v, a.eval x = .iface T v ∧ RP w (Gd C s.rows m w f) p v := by
    generalize a.eval x = y at hv
    cases hv with
    | ifc _ _ v h => exact ⟨v, rfl, h⟩
  refine ⟨.tuple #[.iface T v, .bool true], fun w' hw' => ?_, .tup _ _ rfl (fun j c u hc hu => ?_)⟩
  · simp [execOp, hva, Instr.typeAssert, run_underlying hA, typeInfo, hinf, hm]
  · match j, hc, hu with
    | 0, hc, hu => simp at hc hu; subst hc; subst hu; exact .pv _ _ _ (.ifc _ _ _ hp)
    | 1, hc, hu => simp at hc hu; subst hc; subst hu; exact .pv _ _ _ (.bool _)

theorem least_some {l : List String} (h : l ≠ []) : ∃ x, Instr.least l = some x := by
  cases l with
  | nil => exact absurd rfl h
  | cons a l => exact ⟨_, rfl⟩

theorem missing_some {want : Array (String × TypeId)} {got : Array Method} (h : (want.toList.any fun p => !got.any fun m => m.name == p.1 && m.sig == p.2) = true) : ∃ nm, Instr.missingMethod want got = some nm := by
  unfold Instr.missingMethod
  simp only []
  generalize hM : ((want.toList.filter fun (x : String × TypeId) => match x with | (name, sig) => !got.any fun m => m.name == name && m.sig == sig).map (·.1)) = M
  have hne : M ≠ [] := by
    rw [← hM]
    rw [List.any_eq_true] at h
    obtain ⟨p, hp, hq⟩ := h
    intro e
    rw [List.map_eq_nil_iff] at e
    have : p ∈ (want.toList.filter fun (x : String × TypeId) => match x with | (name, sig) => !got.any fun m => m.name == name && m.sig == sig) := List.mem_filter.2 ⟨hp, hq⟩
    rw [e] at this
    cases this
  rw [List.partition_eq_filter_filter]
  by_cases h2 : (M.filter (not ∘ fun x => x.contains '.')) = []
  · have h3 : (M.filter fun x => x.contains '.') ≠ [] := by
      intro e
      cases M with
      | nil => exact hne rfl
      | cons a l =>
        rw [List.filter_eq_nil_iff] at h2 e
        have h4 := h2 a List.mem_cons_self
        have h5 := e a List.mem_cons_self
        simp at h4 h5
        simp_all
    obtain ⟨x, hx⟩ := least_some (l := (M.filter fun x => x.contains '.').map fun id => (id.splitOn ".").getLastD id) (by simpa using h3)
    refine ⟨x, ?_⟩
    simp only [h2]
    rw [hx]
    rfl
  · obtain ⟨x, hx⟩ := least_some h2
    refine ⟨x, ?_⟩
    simp only [hx]
    rfl

/-- It is not. -/
theorem vo_assert_no {x : Operand} {T A xt : TypeId} {f : Bool} {p : PV} {want : Array (String × TypeId)} {inf : TypeInfo} (ht : Nat.blt t s.n = true) (hx : getO s.env x = .pv f (.ifc T p)) (hA : P.underlying A = some (.interface want)) (hinf : P.info? T = some inf)
    (hm : (want.toList.any fun p => !inf.methods.any fun m => m.name == p.1 && m.sig == p.2) = true) (hz : ∀ w, (zeroValue A).run P w = .ok .nilIface w) (next : VO P C ops rest Q (s.put t (.tup [.pv true .nilifc, .pv true (.bool false)]))) :
    VO P C ops (⟨some t, .typeAssert x xt A true, ty, pos, af, none⟩ :: rest) Q s := by
  obtain ⟨nm, hm⟩ := missing_some hm
  refine vo_pure ht (fun m a w hs => ?_) next
  have hv := hs.get x
  rw [hx] at hv
  have hv := hv.pv_inv
  obtain ⟨v, hva, hp⟩ : ∃ v, a.eval x = .iface T v ∧ RP w (Gd C s.rows m w f) p v := by
    generalize a.eval x = y at hv
    cases hv with
    | ifc _ _ v h => exact ⟨v, rfl, h⟩
  refine ⟨.tuple #[.nilIface, .bool false], fun w' hw' => ?_, .tup _ _ rfl (fun j c u hc hu => ?_)⟩
  · simp [execOp, hva, Instr.typeAssert, run_underlying hA, typeInfo, hinf, hm, hz]
  · match j, hc, hu with
    | 0, hc, hu => simp at hc hu; subst hc; subst hu; exact .pv _ _ _ .nilifc
    | 1, hc, hu => simp at hc hu; subst hc; subst hu; exact .pv _ _ _ (.bool _)
end
end Go.Vl

/- Every order, one by one: for statements where an operation that writes may come before a reading one. -/
namespace Go.Vl
set_option linter.unusedVariables false
set_option linter.unusedSimpArgs false
open Go.RowKit
section
variable {late : List Nat} {P : Program} {C : Ctx} {ops : Array Oper} {K : St → Prop} {s s1 : St} {n : Nat} {listed : Array Bool}
end
section
variable {P : Program} {C : Ctx} {s : St} {t : Nat} {ty : TypeId} {pos : String} {af : Array Edge}
end
end Go.Vl

/- Statements whose order of evaluation is open, with calls that write rows lent to the function: what reads others reads the same behind them. -/
namespace Go.Vl
set_option linter.unusedVariables false
set_option linter.unusedSimpArgs false
open Go.RowKit

/-- All that was there is there as it was, but for some blocks. -/
def ExtB (B : Nat → Prop) (w w' : World) : Prop := w.heap.size ≤ w'.heap.size ∧ ∀ k, k < w.heap.size → ¬ B k → w'.heap[k]? = w.heap[k]?
theorem ExtB.refl (B : Nat → Prop) (w : World) : ExtB B w w := ⟨Nat.le_refl _, fun _ _ _ => rfl⟩
theorem ExtB.trans {B : Nat → Prop} {a b c : World} (h : ExtB B a b) (k : ExtB B b c) : ExtB B a c := ⟨Nat.le_trans h.1 k.1, fun i hi hb => (k.2 i (Nat.lt_of_lt_of_le hi h.1) hb).trans (h.2 i hi hb)⟩
theorem ExtB.cell {B : Nat → Prop} {w w' : World} (h : ExtB B w w') {a : Addr} {v : Value} (hb : ¬ B a.block) (hc : w.cell? a = some v) : w'.cell? a = some v := by
  have hlt : a.block < w.heap.size := by
    rcases Nat.lt_or_ge a.block w.heap.size with h | h
    · exact h
    · unfold World.cell? at hc
      rw [Array.getElem?_eq_none h] at hc
      cases hc
  rw [← hc]
  simp [World.cell?, h.2 _ hlt hb]
/-- The blocks of what was lent to the function. -/
def lentB (C : Ctx) (b : Nat) : Prop := ∃ id, id < C.nb ∧ (C.bv id).S b

section
variable {B : Nat → Prop} {P : Program} {ops : Array Oper} {Q : Go.Exit → Act → World → Prop}
def yieldsB (B : Nat → Prop) (P : Program) (ops : Array Oper) (o : Oper) (v : Value) (a : Act) (w : World) : Prop :=
  (Region.wanted o (yielded ops a.tmps) = true ∧ ∀ w', ExtB B w w' → (execOp a.eval o).run P w' = .ok (.value v) w') ∨ (Region.wanted o (yielded ops a.tmps) = false ∧ v = undef)

theorem yieldsB.step {o : Oper} {v : Value} {a a' : Act} {w w' : World} (h : yieldsB B P ops o v a w) (hx : ExtB B w w') (he : execOp a'.eval o = execOp a.eval o)
    (hw : Region.wanted o (yielded ops a'.tmps) = Region.wanted o (yielded ops a.tmps)) : yieldsB B P ops o v a' w' := by
  unfold yieldsB at *
  rw [he, hw]
  exact h.imp (fun h => ⟨h.1, fun w2 h2 => h.2 w2 (hx.trans h2)⟩) id

theorem yieldsB.op {i : Nat} {o : Oper} {v : Value} {a : Act} {w : World} (hi : ops[i]? = some o) (hy : yieldsB B P ops o v a w) {K : Act → World → Prop} (h : K (a.put o.dst v) w) : wpOp P ops Q i K a w := by
  unfold wpOp
  simp only [hi]
  rcases hy with ⟨hw, hv⟩ | ⟨hw, rfl⟩
  · simp only [hw, if_true, Oper.wp, hv w (ExtB.refl B w), Oper.upon]; exact .inl h
  · simp only [hw, Bool.false_eq_true, if_false]; exact h

/-- Whatever order is picked; each step leaves all that was there as it was, or is one of those that come late. -/
def anyLB (B : Nat → Prop) (late : List Nat) (P : Program) (ops : Array Oper) (Q : Go.Exit → Act → World → Prop) : Nat → Array Bool → Act → World → Prop
  | 0, listed, a, w => Region.ready .any ops listed = [] ∧ Q .normal a w
  | n + 1, listed, a, w => (Region.ready .any ops listed = [] → Q .normal a w) ∧
      ∀ i ∈ Region.ready .any ops listed, wpOp P ops Q i (fun a' w' => (ExtB B w w' ∨ late.contains i = true) ∧ anyLB B late P ops Q n (listed.setIfInBounds i true) a' w') a w

end

def LtB (P : Program) (C : Ctx) (s : St) (o : Oper) (sv : SV) : Prop :=
  ∀ m a w, SimM C s m a w → ∃ v, (∀ w', ExtB (lentB C) w w' → (execOp a.eval o).run P w' = .ok (.value v) w') ∧ RS w (Gd C s.rows m w) m s.rows.length sv v
def VLB (late : List Nat) (P : Program) (C : Ctx) (ops : Array Oper) (n : Nat) (listed : Array Bool) (K : St → Prop) (s : St) : Prop := ∀ m a w, SimM C s m a w → anyLB (lentB C) late P ops (post0 C K) n listed a w

section
variable {late : List Nat} {P : Program} {C : Ctx} {ops : Array Oper} {K : St → Prop} {s : St} {n : Nat} {listed : Array Bool}

end
section
variable {late : List Nat} {P : Program} {C : Ctx} {ops : Array Oper} {K : St → Prop} {s s1 : St} {n : Nat} {listed : Array Bool}
def StepB (late : List Nat) (P : Program) (C : Ctx) (ops : Array Oper) (n : Nat) (listed : Array Bool) (K : St → Prop) (s : St) (i : Nat) : Prop :=
  ∀ m a w, SimM C s m a w → wpOp P ops (post0 C K) i (fun a' w' => (ExtB (lentB C) w w' ∨ late.contains i = true) ∧ anyLB (lentB C) late P ops (post0 C K) n (listed.setIfInBounds i true) a' w') a w
end
section
variable {P : Program} {C : Ctx} {s : St} {t : Nat} {ty : TypeId} {pos : String} {af : Array Edge}
end
section
variable {late : List Nat} {P : Program} {C : Ctx} {ops : Array Oper} {K : St → Prop} {s : St} {n : Nat} {listed : Array Bool}
end
end Go.Vl

namespace Go.Vl
set_option linter.unusedVariables false
set_option linter.unusedSimpArgs false
theorem plain_attrs (l : List AttrM) : plainX (l.map attrP) := by
  intro x hx c hc
  obtain ⟨a, _, rfl⟩ := List.mem_map.1 hx
  simp [PV.cells] at hc
  rcases hc with rfl | rfl | rfl <;> rfl
theorem plain_pairsX (l : List (Int × Int)) : plainX (l.map pairP) := by
  intro x hx c hc
  obtain ⟨a, _, rfl⟩ := List.mem_map.1 hx
  simp [PV.cells] at hc
  rcases hc with rfl | rfl <;> rfl
end Go.Vl

namespace Go.Vl
set_option linter.unusedVariables false
set_option linter.unusedSimpArgs false
open Go.Proofs

theorem plain_nilO2 (n : Nat) : plainX (List.replicate n (.agg [.int .i64 0, .sl (some true) 2 []])) := by
  intro x hx c hc
  rw [(List.mem_replicate.1 hx).2] at hc
  simp [PV.cells] at hc
  rcases hc with rfl | rfl <;> rfl
theorem Z138n : StZ Try.prog 138 [(.int .i64 0), (.sl (some true) 2 [])] := by
  refine ⟨⟨_, Try.underlying138⟩, ti138, #[(.int .i64 0), (.slice none 0 0)], inf138, sz138, by kernel_rfl, fun w G => .agg _ _ rfl ?_ ?_⟩
  · intro j c h
    match j, h with
    | 0, h => cases h; rfl
    | 1, h => cases h; rfl
  · intro j c u h hu
    match j, h, hu with
    | 0, h, hu => cases h; cases hu; exact .int _ _
    | 1, h, hu => cases h; cases hu; exact .nilsl _ _ (by decide)
theorem E67n : ElInfo Try.prog 67 138 2 32 (.agg [(.int .i64 0), (.sl (some true) 2 [])]) := .of_struct Try.underlying67 Z138n (fun i h => by rw [inf138] at h; rw [← Option.some.inj h]; exact by138) (List.cons_ne_nil _ _)

theorem fill_setG {α : Type} (f : α → PV) (l : List α) (k : Nat) (h : k < l.length) (d : α) (x : PV) : ((l.take k).map f ++ List.replicate (l.length - k) x).set k (f (l.getD k d)) = (l.take (k + 1)).map f ++ List.replicate (l.length - (k + 1)) x := by
  have e1 : ((l.take k).map f).length = k := by rw [List.length_map, List.length_take]; omega
  rw [List.set_append_right _ _ (by omega), e1, Nat.sub_self, show l.length - k = (l.length - (k + 1)) + 1 by omega, List.replicate_succ, List.set_cons_zero]
  have e2 : l.take (k + 1) = l.take k ++ [l.getD k d] := by rw [List.take_add_one, List.getD, List.getElem?_eq_getElem h]; rfl
  rw [e2, List.map_append, List.append_assoc]; rfl

theorem toAttrSO_sat {nl0 : Option Bool} {a : List AttrM} (ha : a.length < 1000000000)  : SatAt Try.prog 123 [.pv false (.sl nl0 3 (a.map attrP))] [] (fun res rows => res = [.ref 0] ∧ rows = [Row.own 101 3 (some false) true (a.map attrP)]) := by
 refine sat_entry_G (rs := [(2, none)]) Try.func123 rfl rfl (Nat.le_of_ble_eq_true rfl) (Nat.le_of_ble_eq_true rfl) (resTs1 trivial) fun C hC => ?_
 rw [Try.ntmps123]
 replace hC : C.nb = 0 := hC
 refine vc_seq fun K1 hK1 => ?_
 refine vc_region ?_
 refine vo_assign_pv rfl rfl ?_
 refine vo_nil ?_
 refine hK1 _ ?_
 refine vc_seq fun K2 hK2 => ?_
 refine vc_region ?_
 refine vo_move_pv rfl rfl ?_
 refine vo_len_pv rfl rfl Try.underlying130 ?_
 refine vo_make E99 rfl rfl rfl sd sd sd ?_
 refine vo_assign_ref rfl rfl ?_
 refine vo_nil ?_
 refine hK2 _ ?_
 refine vc_seq fun K3 hK3 => ?_
 refine vc_seq fun K4 hK4 => ?_
 refine vc_region ?_
 refine vo_assign_pv rfl rfl ?_
 refine vo_nil ?_
 refine hK4 _ ?_
 refine vc_block ?_
 refine vc_stM ?_
 refine vc_loopE [0] [3, 4] [0] _ _ (fun mz vs rs => ∃ (k : Nat), mz = a.length - k ∧ (k ≤ a.length) ∧ vs = [.ref 0, i64 k] ∧ rs = [Row.own 101 3 (some false) true ((a.take k).map attrP ++ List.replicate (a.length - k) (.agg [.int .i64 0, .int .i64 0, .int .i64 0]))]) (a.length) rfl rfl (le_len hC rfl) ⟨rfl, rfl, rfl⟩ rfl ⟨0, rfl, Nat.zero_le _, rfl, (rowI_eq (by rw [List.take_zero, List.length_map]; rfl))⟩ ?_
 rintro mz vs rs - - ⟨k, rfl, hk, rfl, rfl⟩
 refine vc_stM ?_
 refine vc_seq fun K5 hK5 => ?_
 refine vc_seq fun K6 hK6 => ?_
 refine vc_region ?_
 refine vo_move_pv rfl rfl ?_
 refine vo_move_pv rfl rfl ?_
 refine vo_len_pv rfl rfl Try.underlying130 ?_
 refine vo_binI rfl rfl rfl rfl trivial ?_
 refine vo_nil ?_
 refine hK6 _ ?_
 refine vc_cond rfl (fun hc1 => ?_) (fun hc1 => ?_)
 ·try simp only [zq0, zq1, zq2, zq3, zq4, zq5, zq6, zq7, zq8, zq9, zqa, zqb, zqc, zqd, zqe, zqf] at hc1
  refine vc_skip ?_
  refine hK5 _ ?_
  refine vc_seq fun K7 hK7 => ?_
  refine vc_block ?_
  refine vc_region ?_
  refine vo_move_ref rfl rfl ?_
  refine vo_move_pv rfl rfl ?_
  refine vo_move_pv rfl rfl ?_
  refine vo_move_pv rfl rfl ?_
  refine vo_index_pv (.agg [(.int .i64 0), (.int .i64 0), (.int .i64 0)]) rfl rfl rfl E130.und inf175 sz175 sd sd ?_
  simp only [Int.toNat_natCast, Int.toNat_zero, getD_ints, getD_intss, getD_bools, getD_bytes, PV.cells, getD_ops, getD_pairs, getD_insts, getD_attrs, getD_attrss, getD_objs, getD_ordP]
  refine vo_load_adrS rfl rfl Try.underlying175 rfl inf175 sz175 rfl ?_
  refine vo_st (by (try simp only [St.put, PV.cells, PV.scal, List.drop_succ_cons, List.drop_zero, List.take_succ_cons, List.take_zero, List.map_cons, List.map_nil, Bool.or_true, Bool.or_false, Bool.false_or, Bool.true_or, opP, pairP, instP, heapP]); exact eq_refl _) ?_
  refine vo_call0 Try.func150 rfl rfl rfl rfl toAttr_sat ?_
  rintro _ _ ⟨rfl, rfl⟩
  refine ⟨rfl, rfl, .inl rfl, ?_⟩
  refine vo_stM ?_
  refine vo_index_ref rfl rfl rfl rfl E99.und inf101 sz101 sd sd ?_
  try simp only [Int.toNat_natCast]
  refine vo_store_own rfl rfl rfl inf101 sz101 (by decide) rfl sd ?_
  try simp only [set_ints, set_intss, set_bools, rep_bools, rep_ints, Int.toNat_natCast, Int.toNat_zero]
  refine vo_stM ?_
  refine vo_nil ?_
  refine hK7 _ ?_
  refine vc_region ?_
  refine vo_move_pv rfl rfl ?_
  refine vo_binI rfl rfl rfl rfl sd ?_
  refine vo_assign_pv rfl rfl ?_
  refine vo_nil ?_
  change againE _ _ _ _ _ _ _ _ _ _
  refine againE_mk rfl rfl rfl rfl rfl rfl ⟨_, ?_, k + 1, rfl, ?_, rfl, (rowI_eq (fill_setG attrP a k (by omega) ⟨0, 0, 0⟩ _))⟩
  ·omega
  ·omega
 ·try simp only [zq0, zq1, zq2, zq3, zq4, zq5, zq6, zq7, zq8, zq9, zqa, zqb, zqc, zqd, zqe, zqf] at hc1
  refine vc_exit ?_
  refine hK3 _ ?_
  refine vc_seq fun K8 hK8 => ?_
  refine vc_region ?_
  refine vo_move_ref rfl rfl ?_
  refine vo_assign_ref rfl rfl ?_
  refine vo_nil ?_
  refine hK8 _ ?_
  refine vc_ret ?_
  change retQ _ _ _ _ _
  refine retQ_sel [0] (srows := [_]) (.inr rfl) hC rfl rfl rfl rfl rfl rfl rfl ?_
  have : k = a.length := by omega
  subst this
  rw [List.take_length, Nat.sub_self, List.replicate_zero, List.append_nil]
  exact ⟨rfl, rfl⟩


theorem toAttrSST_sat {nl0 : Option Bool} {a : List (List AttrM)} (ha : a.length < 1000000000) (hs : ∀ l ∈ a, l.length < 1000000000) : SatAt Try.prog 88 [.pv false (.sl nl0 1 (a.map attrsP))] [] (fun res rows => res = [.ref 0] ∧ rows = [Row.tree 99 1 (some false) none (a.map attrsP)]) := by
 refine sat_entry_G (rs := [(2, none)]) Try.func88 rfl rfl (Nat.le_of_ble_eq_true rfl) (Nat.le_of_ble_eq_true rfl) (resTs1 trivial) fun C hC => ?_
 rw [Try.ntmps88]
 replace hC : C.nb = 0 := hC
 refine vc_seq fun K1 hK1 => ?_
 refine vc_region ?_
 refine vo_assign_pv rfl rfl ?_
 refine vo_nil ?_
 refine hK1 _ ?_
 refine vc_seq fun K2 hK2 => ?_
 refine vc_region ?_
 refine vo_move_pv rfl rfl ?_
 refine vo_len_pv rfl rfl Try.underlying59 ?_
 refine vo_make E66 rfl rfl rfl sd sd sd ?_
 refine vo_assign_ref rfl rfl ?_
 refine vo_nil ?_
 refine hK2 _ ?_
 refine vc_seq fun K3 hK3 => ?_
 refine vc_seq fun K4 hK4 => ?_
 refine vc_region ?_
 refine vo_assign_pv rfl rfl ?_
 refine vo_nil ?_
 refine hK4 _ ?_
 refine vc_block ?_
 refine vc_totree 0 rfl (plain_rep _ _) ?_
 refine vc_stM ?_
 refine vc_stM ?_
 refine vc_loopE [0] [3, 4] [0] _ _ (fun mz vs rs => ∃ (k : Nat), mz = a.length - k ∧ (k ≤ a.length) ∧ vs = [.ref 0, i64 k] ∧ rs = [Row.tree 99 1 (some false) none ((a.take k).map attrsP ++ List.replicate (a.length - k) (.sl (some true) 3 []))]) (a.length) rfl rfl (le_len hC rfl) ⟨rfl, rfl, rfl⟩ rfl ⟨0, rfl, Nat.zero_le _, rfl, (rowT_eq (by rw [List.take_zero, List.length_map]; rfl))⟩ ?_
 rintro mz vs rs - - ⟨k, rfl, hk, rfl, rfl⟩
 refine vc_stM ?_
 refine vc_seq fun K5 hK5 => ?_
 refine vc_seq fun K6 hK6 => ?_
 refine vc_region ?_
 refine vo_move_pv rfl rfl ?_
 refine vo_move_pv rfl rfl ?_
 refine vo_len_pv rfl rfl Try.underlying59 ?_
 refine vo_binI rfl rfl rfl rfl trivial ?_
 refine vo_nil ?_
 refine hK6 _ ?_
 refine vc_cond rfl (fun hc1 => ?_) (fun hc1 => ?_)
 ·try simp only [zq0, zq1, zq2, zq3, zq4, zq5, zq6, zq7, zq8, zq9, zqa, zqb, zqc, zqd, zqe, zqf] at hc1
  refine vc_skip ?_
  refine hK5 _ ?_
  refine vc_seq fun K7 hK7 => ?_
  refine vc_block ?_
  refine vc_region ?_
  refine vo_move_ref rfl rfl ?_
  refine vo_move_pv rfl rfl ?_
  refine vo_move_pv rfl rfl ?_
  refine vo_move_pv rfl rfl ?_
  refine vo_index_pv (.sl none 3 []) rfl rfl rfl E59.und inf130 sz130 sd sd ?_
  simp only [Int.toNat_natCast, Int.toNat_zero, getD_ints, getD_intss, getD_bools, getD_bytes, PV.cells, getD_ops, getD_pairs, getD_insts, getD_attrs, getD_attrss, getD_objs, getD_ordP]
  refine vo_load_adr rfl rfl Try.underlying130 rfl ?_
  refine vo_call [] Try.func123 rfl rfl rfl rfl rfl rfl rfl (toAttrSO_sat (getD_all (p := fun l : List AttrM => l.length < 1000000000) hs [] (by simp) _)) ?_
  rintro _ _ ⟨rfl, rfl⟩
  refine ⟨Nat.le_of_ble_eq_true rfl, ⟨rfl, rfl, rfl, rfl⟩, .inl rfl, ?_⟩
  refine vo_stM ?_
  refine vo_index_ref rfl rfl rfl rfl E66.und inf99 sz99 sd sd ?_
  try simp only [Int.toNat_natCast]
  refine vo_totree 1 rfl (plain_attrs _) ?_
  refine vo_stM ?_
  refine vo_weaktree 1 rfl ?_
  refine vo_stM ?_
  refine vo_put (p := .sl _ _ _) rfl rfl rfl rfl rfl rfl rfl hC rfl (by first | decide | (simp [refsOf]; done) | (simp [refsOf, SV.shift1, placeOf]; done)) inf99 sz99 sd ?_
  refine vo_stM ?_
  refine vo_nil ?_
  refine hK7 _ ?_
  refine vc_region ?_
  refine vo_move_pv rfl rfl ?_
  refine vo_binI rfl rfl rfl rfl sd ?_
  refine vo_assign_pv rfl rfl ?_
  refine vo_nil ?_
  change againE _ _ _ _ _ _ _ _ _ _
  refine againE_mk rfl rfl rfl rfl rfl rfl ⟨_, ?_, k + 1, rfl, ?_, rfl, (rowT_eq (fill_setG attrsP a k (by omega) [] _))⟩
  ·omega
  ·omega
 ·try simp only [zq0, zq1, zq2, zq3, zq4, zq5, zq6, zq7, zq8, zq9, zqa, zqb, zqc, zqd, zqe, zqf] at hc1
  refine vc_exit ?_
  refine hK3 _ ?_
  refine vc_seq fun K8 hK8 => ?_
  refine vc_region ?_
  refine vo_move_ref rfl rfl ?_
  refine vo_assign_ref rfl rfl ?_
  refine vo_nil ?_
  refine hK8 _ ?_
  refine vc_ret ?_
  change retQ _ _ _ _ _
  refine retQ_sel [0] (srows := [_]) (.inr rfl) hC rfl rfl rfl rfl rfl rfl rfl ?_
  have : k = a.length := by omega
  subst this
  rw [List.take_length, Nat.sub_self, List.replicate_zero, List.append_nil]
  exact ⟨rfl, rfl⟩


theorem toPairSO_sat {nl0 : Option Bool} {a : List (Int × Int)} (ha : a.length < 1000000000)  : SatAt Try.prog 151 [.pv false (.sl nl0 2 (a.map pairP))] [] (fun res rows => res = [.ref 0] ∧ rows = [Row.own 173 2 (some false) true (a.map pairP)]) := by
 refine sat_entry_G (rs := [(2, none)]) Try.func151 rfl rfl (Nat.le_of_ble_eq_true rfl) (Nat.le_of_ble_eq_true rfl) (resTs1 trivial) fun C hC => ?_
 rw [Try.ntmps151]
 replace hC : C.nb = 0 := hC
 refine vc_seq fun K1 hK1 => ?_
 refine vc_region ?_
 refine vo_assign_pv rfl rfl ?_
 refine vo_nil ?_
 refine hK1 _ ?_
 refine vc_seq fun K2 hK2 => ?_
 refine vc_region ?_
 refine vo_move_pv rfl rfl ?_
 refine vo_len_pv rfl rfl Try.underlying132 ?_
 refine vo_make E136 rfl rfl rfl sd sd sd ?_
 refine vo_assign_ref rfl rfl ?_
 refine vo_nil ?_
 refine hK2 _ ?_
 refine vc_seq fun K3 hK3 => ?_
 refine vc_seq fun K4 hK4 => ?_
 refine vc_region ?_
 refine vo_assign_pv rfl rfl ?_
 refine vo_nil ?_
 refine hK4 _ ?_
 refine vc_block ?_
 refine vc_stM ?_
 refine vc_loopE [0] [3, 4] [0] _ _ (fun mz vs rs => ∃ (k : Nat), mz = a.length - k ∧ (k ≤ a.length) ∧ vs = [.ref 0, i64 k] ∧ rs = [Row.own 173 2 (some false) true ((a.take k).map pairP ++ List.replicate (a.length - k) (.agg [.int .i64 0, .int .i64 0]))]) (a.length) rfl rfl (le_len hC rfl) ⟨rfl, rfl, rfl⟩ rfl ⟨0, rfl, Nat.zero_le _, rfl, (rowI_eq (by rw [List.take_zero, List.length_map]; rfl))⟩ ?_
 rintro mz vs rs - - ⟨k, rfl, hk, rfl, rfl⟩
 refine vc_stM ?_
 refine vc_seq fun K5 hK5 => ?_
 refine vc_seq fun K6 hK6 => ?_
 refine vc_region ?_
 refine vo_move_pv rfl rfl ?_
 refine vo_move_pv rfl rfl ?_
 refine vo_len_pv rfl rfl Try.underlying132 ?_
 refine vo_binI rfl rfl rfl rfl trivial ?_
 refine vo_nil ?_
 refine hK6 _ ?_
 refine vc_cond rfl (fun hc1 => ?_) (fun hc1 => ?_)
 ·try simp only [zq0, zq1, zq2, zq3, zq4, zq5, zq6, zq7, zq8, zq9, zqa, zqb, zqc, zqd, zqe, zqf] at hc1
  refine vc_skip ?_
  refine hK5 _ ?_
  refine vc_seq fun K7 hK7 => ?_
  refine vc_block ?_
  refine vc_region ?_
  refine vo_move_ref rfl rfl ?_
  refine vo_move_pv rfl rfl ?_
  refine vo_move_pv rfl rfl ?_
  refine vo_move_pv rfl rfl ?_
  refine vo_index_pv (.agg [(.int .i64 0), (.int .i64 0)]) rfl rfl rfl E132.und inf190 sz190 sd sd ?_
  simp only [Int.toNat_natCast, Int.toNat_zero, getD_ints, getD_intss, getD_bools, getD_bytes, PV.cells, getD_ops, getD_pairs, getD_insts, getD_attrs, getD_attrss, getD_objs, getD_ordP]
  refine vo_load_adrS rfl rfl Try.underlying190 rfl inf190 sz190 rfl ?_
  refine vo_st (by (try simp only [St.put, PV.cells, PV.scal, List.drop_succ_cons, List.drop_zero, List.take_succ_cons, List.take_zero, List.map_cons, List.map_nil, Bool.or_true, Bool.or_false, Bool.false_or, Bool.true_or, opP, pairP, instP, heapP]); exact eq_refl _) ?_
  refine vo_call0 Try.func168 rfl rfl rfl rfl toPair_sat ?_
  rintro _ _ ⟨rfl, rfl⟩
  refine ⟨rfl, rfl, .inl rfl, ?_⟩
  refine vo_stM ?_
  refine vo_index_ref rfl rfl rfl rfl E136.und inf173 sz173 sd sd ?_
  try simp only [Int.toNat_natCast]
  refine vo_store_own rfl rfl rfl inf173 sz173 (by decide) rfl sd ?_
  try simp only [set_ints, set_intss, set_bools, rep_bools, rep_ints, Int.toNat_natCast, Int.toNat_zero]
  refine vo_stM ?_
  refine vo_nil ?_
  refine hK7 _ ?_
  refine vc_region ?_
  refine vo_move_pv rfl rfl ?_
  refine vo_binI rfl rfl rfl rfl sd ?_
  refine vo_assign_pv rfl rfl ?_
  refine vo_nil ?_
  change againE _ _ _ _ _ _ _ _ _ _
  refine againE_mk rfl rfl rfl rfl rfl rfl ⟨_, ?_, k + 1, rfl, ?_, rfl, (rowI_eq (fill_setG pairP a k (by omega) (0, 0) _))⟩
  ·omega
  ·omega
 ·try simp only [zq0, zq1, zq2, zq3, zq4, zq5, zq6, zq7, zq8, zq9, zqa, zqb, zqc, zqd, zqe, zqf] at hc1
  refine vc_exit ?_
  refine hK3 _ ?_
  refine vc_seq fun K8 hK8 => ?_
  refine vc_region ?_
  refine vo_move_ref rfl rfl ?_
  refine vo_assign_ref rfl rfl ?_
  refine vo_nil ?_
  refine hK8 _ ?_
  refine vc_ret ?_
  change retQ _ _ _ _ _
  refine retQ_sel [0] (srows := [_]) (.inr rfl) hC rfl rfl rfl rfl rfl rfl rfl ?_
  have : k = a.length := by omega
  subst this
  rw [List.take_length, Nat.sub_self, List.replicate_zero, List.append_nil]
  exact ⟨rfl, rfl⟩


theorem toObjectO_sat {a : ObjM}  (ha : SO a) : SatAt Try.prog 124 [.pv false (objP a)] [] (fun res rows => res = [.ag [i64 a.cls, .ref 0]] ∧ rows = [Row.own 173 2 (some false) true (a.pairs.map pairP)]) := by
 unfold SO at ha
 refine sat_entry_G (rs := [(2, some (138, 2))]) Try.func124 rfl rfl (Nat.le_of_ble_eq_true rfl) (Nat.le_of_ble_eq_true rfl) (resTs1 ⟨_, _, Try.underlying138, rfl, inf138, sz138⟩) fun C hC => ?_
 rw [Try.ntmps124]
 replace hC : C.nb = 0 := hC
 refine vc_seq fun K1 hK1 => ?_
 refine vc_region ?_
 refine vo_box rfl rfl ?_
 refine vo_stM ?_
 refine vo_alloc Z138 rfl ?_
 refine vo_stM ?_
 refine vo_nil ?_
 refine hK1 _ ?_
 refine vc_seq fun K2 hK2 => ?_
 refine vc_region ?_
 refine vo_alloc Z138 rfl ?_
 refine vo_stM ?_
 refine vo_nil ?_
 refine hK2 _ ?_
 refine vc_seq fun K3 hK3 => ?_
 refine vc_region ?_
 refine vo_fieldAddr_ptr rfl rfl Try.underlying134 rfl inf3 (by rw [sz3]; decide) ?_
 try simp only [Nat.zero_add]
 refine vo_load_var rfl rfl rfl Try.underlying3 rfl rfl ?_
 refine vo_fieldAddr_ptr rfl rfl Try.underlying138 rfl inf3 (by rw [sz3]; decide) ?_
 try simp only [Nat.zero_add]
 refine vo_store_var rfl rfl rfl rfl inf3 sz3 rfl ?_
 refine vo_stM ?_
 refine vo_nil ?_
 refine hK3 _ ?_
 refine vc_seq fun K4 hK4 => ?_
 refine vc_region ?_
 refine vo_fieldAddr_ptr rfl rfl Try.underlying134 rfl inf132 (by rw [sz132]; decide) ?_
 try simp only [Nat.zero_add]
 refine vo_load_var rfl rfl rfl Try.underlying132 rfl rfl ?_
 refine vo_call [] Try.func151 rfl rfl rfl rfl rfl rfl rfl (toPairSO_sat (by omega)) ?_
 rintro _ _ ⟨rfl, rfl⟩
 refine ⟨Nat.le_of_ble_eq_true rfl, ⟨rfl, rfl, rfl, rfl⟩, .inl rfl, ?_⟩
 refine vo_stM ?_
 refine vo_fieldAddr_ptr rfl rfl Try.underlying138 rfl inf136 (by rw [sz136]; decide) ?_
 try simp only [Nat.zero_add]
 refine vo_store_varG rfl rfl rfl rfl inf136 sz136 rfl ?_
 refine vo_stM ?_
 refine vo_nil ?_
 refine hK4 _ ?_
 refine vc_seq fun K5 hK5 => ?_
 refine vc_region ?_
 refine vo_load_varG rfl rfl rfl Try.underlying138 rfl inf138 sz138 rfl ?_
 refine vo_stM ?_
 refine vo_store_varG rfl rfl rfl rfl inf138 sz138 rfl ?_
 refine vo_stM ?_
 refine vo_nil ?_
 refine hK5 _ ?_
 refine vc_ret ?_
 change retQ _ _ _ _ _
 refine retQ_sel [3] (srows := [_]) (.inr rfl) hC rfl rfl rfl rfl rfl rfl rfl ?_
 exact ⟨rfl, rfl⟩


theorem toObjectST_sat {nl0 : Option Bool} {a : List ObjM} (ha : a.length < 1000000000) (hs : ∀ o ∈ a, SO o) : SatAt Try.prog 89 [.pv false (.sl nl0 2 (a.map objP))] [] (fun res rows => res = [.ref 0] ∧ rows = [Row.tree 138 2 (some false) none (a.map objP)]) := by
 refine sat_entry_G (rs := [(2, none)]) Try.func89 rfl rfl (Nat.le_of_ble_eq_true rfl) (Nat.le_of_ble_eq_true rfl) (resTs1 trivial) fun C hC => ?_
 rw [Try.ntmps89]
 replace hC : C.nb = 0 := hC
 refine vc_seq fun K1 hK1 => ?_
 refine vc_region ?_
 refine vo_assign_pv rfl rfl ?_
 refine vo_nil ?_
 refine hK1 _ ?_
 refine vc_seq fun K2 hK2 => ?_
 refine vc_region ?_
 refine vo_move_pv rfl rfl ?_
 refine vo_len_pv rfl rfl Try.underlying60 ?_
 refine vo_make E67n rfl rfl rfl sd sd sd ?_
 refine vo_assign_ref rfl rfl ?_
 refine vo_nil ?_
 refine hK2 _ ?_
 refine vc_seq fun K3 hK3 => ?_
 refine vc_seq fun K4 hK4 => ?_
 refine vc_region ?_
 refine vo_assign_pv rfl rfl ?_
 refine vo_nil ?_
 refine hK4 _ ?_
 refine vc_block ?_
 refine vc_totree 0 rfl (plain_nilO2 _) ?_
 refine vc_stM ?_
 refine vc_stM ?_
 refine vc_loopE [0] [3, 4] [0] _ _ (fun mz vs rs => ∃ (k : Nat), mz = a.length - k ∧ (k ≤ a.length) ∧ vs = [.ref 0, i64 k] ∧ rs = [Row.tree 138 2 (some false) none ((a.take k).map objP ++ List.replicate (a.length - k) (.agg [.int .i64 0, .sl (some true) 2 []]))]) (a.length) rfl rfl (le_len hC rfl) ⟨rfl, rfl, rfl⟩ rfl ⟨0, rfl, Nat.zero_le _, rfl, (rowT_eq (by rw [List.take_zero, List.length_map]; rfl))⟩ ?_
 rintro mz vs rs - - ⟨k, rfl, hk, rfl, rfl⟩
 refine vc_stM ?_
 refine vc_seq fun K5 hK5 => ?_
 refine vc_seq fun K6 hK6 => ?_
 refine vc_region ?_
 refine vo_move_pv rfl rfl ?_
 refine vo_move_pv rfl rfl ?_
 refine vo_len_pv rfl rfl Try.underlying60 ?_
 refine vo_binI rfl rfl rfl rfl trivial ?_
 refine vo_nil ?_
 refine hK6 _ ?_
 refine vc_cond rfl (fun hc1 => ?_) (fun hc1 => ?_)
 ·try simp only [zq0, zq1, zq2, zq3, zq4, zq5, zq6, zq7, zq8, zq9, zqa, zqb, zqc, zqd, zqe, zqf] at hc1
  refine vc_skip ?_
  refine hK5 _ ?_
  refine vc_seq fun K7 hK7 => ?_
  refine vc_block ?_
  refine vc_region ?_
  refine vo_move_ref rfl rfl ?_
  refine vo_move_pv rfl rfl ?_
  refine vo_move_pv rfl rfl ?_
  refine vo_move_pv rfl rfl ?_
  refine vo_index_pv (.agg [(.int .i64 0), (.sl none 2 [])]) rfl rfl rfl E60.und inf134 sz134 sd sd ?_
  simp only [Int.toNat_natCast, Int.toNat_zero, getD_ints, getD_intss, getD_bools, getD_bytes, PV.cells, getD_ops, getD_pairs, getD_insts, getD_attrs, getD_attrss, getD_objs, getD_ordP]
  refine vo_load_adrS rfl rfl Try.underlying134 rfl inf134 sz134 rfl ?_
  refine vo_st (by (try simp only [St.put, PV.cells, PV.scal, List.drop_succ_cons, List.drop_zero, List.take_succ_cons, List.take_zero, List.map_cons, List.map_nil, Bool.or_true, Bool.or_false, Bool.false_or, Bool.true_or, opP, pairP, instP, heapP]); exact eq_refl _) ?_
  refine vo_call [] Try.func124 rfl rfl rfl rfl rfl rfl rfl (toObjectO_sat (getD_all hs _ SO_zero _)) ?_
  rintro _ _ ⟨rfl, rfl⟩
  refine ⟨Nat.le_of_ble_eq_true rfl, ⟨rfl, rfl, rfl, rfl⟩, .inl rfl, ?_⟩
  refine vo_stM ?_
  refine vo_index_ref rfl rfl rfl rfl E67n.und inf138 sz138 sd sd ?_
  try simp only [Int.toNat_natCast]
  refine vo_totree 1 rfl (plain_pairsX _) ?_
  refine vo_stM ?_
  refine vo_weaktree 1 rfl ?_
  refine vo_stM ?_
  refine vo_put (p := .agg _) rfl rfl rfl rfl rfl rfl rfl hC rfl (by first | decide | (simp [refsOf]; done) | (simp [refsOf, SV.shift1, placeOf]; done)) inf138 sz138 sd ?_
  refine vo_stM ?_
  refine vo_nil ?_
  refine hK7 _ ?_
  refine vc_region ?_
  refine vo_move_pv rfl rfl ?_
  refine vo_binI rfl rfl rfl rfl sd ?_
  refine vo_assign_pv rfl rfl ?_
  refine vo_nil ?_
  change againE _ _ _ _ _ _ _ _ _ _
  refine againE_mk rfl rfl rfl rfl rfl rfl ⟨_, ?_, k + 1, rfl, ?_, rfl, (rowT_eq (fill_setG objP a k (by omega) ⟨0, []⟩ _))⟩
  ·omega
  ·omega
 ·try simp only [zq0, zq1, zq2, zq3, zq4, zq5, zq6, zq7, zq8, zq9, zqa, zqb, zqc, zqd, zqe, zqf] at hc1
  refine vc_exit ?_
  refine hK3 _ ?_
  refine vc_seq fun K8 hK8 => ?_
  refine vc_region ?_
  refine vo_move_ref rfl rfl ?_
  refine vo_assign_ref rfl rfl ?_
  refine vo_nil ?_
  refine hK8 _ ?_
  refine vc_ret ?_
  change retQ _ _ _ _ _
  refine retQ_sel [0] (srows := [_]) (.inr rfl) hC rfl rfl rfl rfl rfl rfl rfl ?_
  have : k = a.length := by omega
  subst this
  rw [List.take_length, Nat.sub_self, List.replicate_zero, List.append_nil]
  exact ⟨rfl, rfl⟩

end Go.Vl

namespace Go.Vl
set_option linter.unusedVariables false
set_option linter.unusedSimpArgs false
open Go.Proofs
theorem orderOf_satI {nl0 : Option Bool} {bases : List (List Int)} {c : Int} (hbases : bases.length < 1000000000) (hlbases : ∀ l ∈ bases, l.length < 1000000000) (hv : VB bases) (h0 : 0 ≤ c) (h1 : c < bases.length) : SatAt Try.prog 65 [.pv false (.sl nl0 1 (bases.map ints)), i64 c] [] (fun res rows => ∃ nl, res = [.ref 0] ∧ rows = [Row.own 3 1 nl true ((ordM bases c.toNat).map intP)]) := by
 obtain ⟨n, rfl⟩ := Int.eq_ofNat_of_zero_le h0
 exact orderOf_sat hbases hlbases hv n (by omega)
end Go.Vl

namespace Go.Vl
set_option linter.unusedVariables false
set_option linter.unusedSimpArgs false
open Go.Proofs

theorem ownM_yes {w : WorldM} {c name : Int} (hv : VWorld w ∧ 0 ≤ c ∧ c ≤ (w.bases.length : Int) - 1) : ownM w c name = ownrs w.attrs name (ordM w.bases c.toNat) := by unfold ownM; rw [if_pos hv]

theorem toWorldT_sat {a : WorldM}  (hw : SW a) : SatAt Try.prog 51 [.pv false (worldP a)] [] (fun res rows => res = [.ag [.ref 0, .ref 1, .ref 2]] ∧ rows = [Row.tree 28 1 none none (a.bases.map ints), Row.tree 99 1 none none (a.attrs.map attrsP), Row.tree 138 2 none none (a.objs.map objP)]) := by
 obtain ⟨⟨b1, b2⟩, ⟨a1, a2⟩, o1, o2⟩ := hw
 refine sat_entry_G (rs := [(2, some (69, 3))]) Try.func51 rfl rfl (Nat.le_of_ble_eq_true rfl) (Nat.le_of_ble_eq_true rfl) (resTs1 ⟨_, _, Try.underlying69, rfl, inf69, sz69⟩) fun C hC => ?_
 rw [Try.ntmps51]
 replace hC : C.nb = 0 := hC
 refine vc_seq fun K1 hK1 => ?_
 refine vc_region ?_
 refine vo_box rfl rfl ?_
 refine vo_stM ?_
 refine vo_alloc Z69 rfl ?_
 refine vo_stM ?_
 refine vo_nil ?_
 refine hK1 _ ?_
 refine vc_seq fun K2 hK2 => ?_
 refine vc_region ?_
 refine vo_alloc Z69 rfl ?_
 refine vo_stM ?_
 refine vo_nil ?_
 refine hK2 _ ?_
 refine vc_seq fun K3 hK3 => ?_
 refine vc_region ?_
 refine vo_fieldAddr_ptr rfl rfl Try.underlying62 rfl inf23 (by rw [sz23]; decide) ?_
 try simp only [Nat.zero_add]
 refine vo_load_var rfl rfl rfl Try.underlying23 rfl rfl ?_
 refine vo_call [] Try.func45 rfl rfl rfl rfl rfl rfl rfl (toIntSST_sat (by omega) (fun l hl => by have := b2 l hl; omega)) ?_
 rintro _ _ ⟨rfl, rfl⟩
 refine ⟨Nat.le_of_ble_eq_true rfl, ⟨rfl, rfl, rfl, rfl⟩, .inl rfl, ?_⟩
 refine vo_stM ?_
 refine vo_weaktree 3 rfl ?_
 refine vo_stM ?_
 refine vo_fieldAddr_ptr rfl rfl Try.underlying69 rfl inf23 (by rw [sz23]; decide) ?_
 try simp only [Nat.zero_add]
 refine vo_store_varG rfl rfl rfl rfl inf23 sz23 rfl ?_
 refine vo_stM ?_
 refine vo_nil ?_
 refine hK3 _ ?_
 refine vc_seq fun K4 hK4 => ?_
 refine vc_region ?_
 refine vo_fieldAddr_ptr rfl rfl Try.underlying62 rfl inf59 (by rw [sz59]; decide) ?_
 try simp only [Nat.zero_add]
 refine vo_load_var rfl rfl rfl Try.underlying59 rfl rfl ?_
 refine vo_call [] Try.func88 rfl rfl rfl rfl rfl rfl rfl (toAttrSST_sat (by omega) (fun l hl => by have := a2 l hl; omega)) ?_
 rintro _ _ ⟨rfl, rfl⟩
 refine ⟨Nat.le_of_ble_eq_true rfl, ⟨rfl, rfl, rfl, rfl⟩, .inl rfl, ?_⟩
 refine vo_stM ?_
 refine vo_weaktree 4 rfl ?_
 refine vo_stM ?_
 refine vo_fieldAddr_ptr rfl rfl Try.underlying69 rfl inf66 (by rw [sz66]; decide) ?_
 try simp only [Nat.zero_add]
 refine vo_store_varG rfl rfl rfl rfl inf66 sz66 rfl ?_
 refine vo_stM ?_
 refine vo_nil ?_
 refine hK4 _ ?_
 refine vc_seq fun K5 hK5 => ?_
 refine vc_region ?_
 refine vo_fieldAddr_ptr rfl rfl Try.underlying62 rfl inf60 (by rw [sz60]; decide) ?_
 try simp only [Nat.zero_add]
 refine vo_load_var rfl rfl rfl Try.underlying60 rfl rfl ?_
 refine vo_call [] Try.func89 rfl rfl rfl rfl rfl rfl rfl (toObjectST_sat (by omega) o2) ?_
 rintro _ _ ⟨rfl, rfl⟩
 refine ⟨Nat.le_of_ble_eq_true rfl, ⟨rfl, rfl, rfl, rfl⟩, .inl rfl, ?_⟩
 refine vo_stM ?_
 refine vo_weaktree 5 rfl ?_
 refine vo_stM ?_
 refine vo_fieldAddr_ptr rfl rfl Try.underlying69 rfl inf67 (by rw [sz67]; decide) ?_
 try simp only [Nat.zero_add]
 refine vo_store_varG rfl rfl rfl rfl inf67 sz67 rfl ?_
 refine vo_stM ?_
 refine vo_nil ?_
 refine hK5 _ ?_
 refine vc_seq fun K6 hK6 => ?_
 refine vc_region ?_
 refine vo_load_varG rfl rfl rfl Try.underlying69 rfl inf69 sz69 rfl ?_
 refine vo_stM ?_
 refine vo_store_varG rfl rfl rfl rfl inf69 sz69 rfl ?_
 refine vo_stM ?_
 refine vo_nil ?_
 refine hK6 _ ?_
 refine vc_ret ?_
 change retQ _ _ _ _ _
 refine retQ_sel [3, 4, 5] (srows := [_, _, _]) (.inr rfl) hC rfl rfl rfl rfl rfl rfl rfl ?_
 exact ⟨rfl, rfl⟩


theorem owners_sat {w : WorldM} {c : Int} {name : Int}  (hw : SW w) (hV : VWorld w) (h0 : 0 ≤ c) (h1 : c ≤ (w.bases.length : Int) - 1) : SatAt Try.prog 87 [.pv false (worldP w), i64 c, i64 name] [] (fun res rows => res = [.ref 0] ∧ rows = [Row.own 3 1 (some false) true ((ownrs w.attrs name ((ordM w.bases c.toNat))).map intP)]) := by
 have hw0 := hw
 obtain ⟨⟨b1, b2⟩, ⟨a1, a2⟩, o1, o2⟩ := hw
 have hoi := ordIn_of hV h0 h1
 have hol := ordM_len hV.1.1 (show c.toNat < w.bases.length by omega)
 refine sat_entry_G (rs := [(6, none)]) Try.func87 rfl rfl (Nat.le_of_ble_eq_true rfl) (Nat.le_of_ble_eq_true rfl) (resTs1 trivial) fun C hC => ?_
 rw [Try.ntmps87]
 replace hC : C.nb = 0 := hC
 refine vc_seq fun K1 hK1 => ?_
 refine vc_region ?_
 refine vo_box rfl rfl ?_
 refine vo_stM ?_
 refine vo_assign_pv rfl rfl ?_
 refine vo_nil ?_
 refine hK1 _ ?_
 refine vc_seq fun K2 hK2 => ?_
 refine vc_region ?_
 refine vo_buildSlice E28 rfl rfl rfl rfl rfl ?_
 refine vo_stM ?_
 refine vo_assign_ref rfl rfl ?_
 refine vo_nil ?_
 refine hK2 _ ?_
 refine vc_seq fun K3 hK3 => ?_
 refine vc_region ?_
 refine vo_fieldAddr_ptr rfl rfl Try.underlying69 rfl inf23 (by rw [sz23]; decide) ?_
 try simp only [Nat.zero_add]
 refine vo_load_var rfl rfl rfl Try.underlying23 rfl rfl ?_
 refine vo_move_pv rfl rfl ?_
 refine vo_call [] Try.func65 rfl rfl rfl rfl rfl rfl rfl (orderOf_satI (by omega) (fun l hl => by have := b2 l hl; omega) hV.1.1 h0 (by omega)) ?_
 rintro _ _ ⟨nlo, rfl, rfl⟩
 refine ⟨Nat.le_of_ble_eq_true rfl, ⟨rfl, rfl, rfl, rfl⟩, .inl rfl, ?_⟩
 refine vo_stM ?_
 refine vo_assign_ref rfl rfl ?_
 refine vo_nil ?_
 refine hK3 _ ?_
 refine vc_seq fun K4 hK4 => ?_
 refine vc_seq fun K5 hK5 => ?_
 refine vc_region ?_
 refine vo_assign_pv rfl rfl ?_
 refine vo_nil ?_
 refine hK5 _ ?_
 refine vc_block ?_
 refine vc_stM ?_
 refine vc_loopE [2, 3, 8] [7, 9] [1] _ _ (fun mz vs rs => ∃ (k : Nat), mz = (ordM w.bases c.toNat).length - k ∧ (k ≤ (ordM w.bases c.toNat).length) ∧ vs = [.ref 1, i64 k] ∧ rs = [Row.own 3 1 (some false) true ((ownrs w.attrs name ((ordM w.bases c.toNat).take k)).map intP)]) ((ordM w.bases c.toNat).length) rfl rfl (le_len hC rfl) ⟨rfl, rfl, rfl⟩ rfl ⟨0, rfl, Nat.zero_le _, rfl, rfl⟩ ?_
 rintro mz vs rs - - ⟨k, rfl, hk, rfl, rfl⟩
 refine vc_stM ?_
 have hrl := ownrs_len w.attrs name ((ordM w.bases c.toNat).take k)
 rw [List.length_take] at hrl
 refine vc_seq fun K6 hK6 => ?_
 refine vc_seq fun K7 hK7 => ?_
 refine vc_region ?_
 refine vo_move_pv rfl rfl ?_
 refine vo_move_ref rfl rfl ?_
 refine vo_len_ref rfl rfl rfl Try.underlying28 ?_
 refine vo_binI rfl rfl rfl rfl trivial ?_
 refine vo_nil ?_
 refine hK7 _ ?_
 refine vc_cond rfl (fun hc1 => ?_) (fun hc1 => ?_)
 ·try simp only [zq0, zq1, zq2, zq3, zq4, zq5, zq6, zq7, zq8, zq9, zqa, zqb, zqc, zqd, zqe, zqf] at hc1
  have hin := hoi.2 _ (getD_mem (show k < (ordM w.bases c.toNat).length by omega) 0)
  have hak := (getD_all (p := fun l : List AttrM => l.length ≤ 2000000) a2 [] (by simp) ((ordM w.bases c.toNat).getD k 0).toNat)
  refine vc_skip ?_
  refine hK6 _ ?_
  refine vc_seq fun K8 hK8 => ?_
  refine vc_block ?_
  refine vc_seq fun K9 hK9 => ?_
  refine vc_draw (by kernel_rfl) ?_
  change VD _ _ _ 11 _ _ _
  refine vd_light 0 rfl rfl rfl (by kernel_rfl) (by kernel_rfl) (by kernel_rfl) (wnt_none rfl) (lt_fieldAddr_ptr rfl Try.underlying69 rfl inf66 (by rw [sz66]; decide)) ?_
  try simp only [Nat.zero_add]
  refine vd_light 1 rfl rfl rfl (by kernel_rfl) (by kernel_rfl) (by kernel_rfl) (wnt_none rfl) (lt_load_var rfl rfl Try.underlying66 rfl rfl) ?_
  refine vd_light 2 rfl rfl rfl (by kernel_rfl) (by kernel_rfl) (by kernel_rfl) (wnt_none rfl) (lt_move_ref rfl) ?_
  refine vd_light 3 rfl rfl rfl (by kernel_rfl) (by kernel_rfl) (by kernel_rfl) (wnt_none rfl) (lt_move_pv rfl) ?_
  refine vd_light 4 rfl rfl rfl (by kernel_rfl) (by kernel_rfl) (by kernel_rfl) (wnt_none rfl) (lt_index_ref rfl rfl rfl E28.und inf3 sz3 sd sd) ?_
  try simp only [Int.toNat_natCast]
  refine vd_light 5 rfl rfl rfl (by kernel_rfl) (by kernel_rfl) (by kernel_rfl) (wnt_none rfl) (lt_load_own rfl rfl Try.underlying3 rfl sd (getD_ints _ _) rfl) ?_
  try simp only [Int.toNat_natCast]
  refine vd_light 6 rfl rfl rfl (by kernel_rfl) (by kernel_rfl) (by kernel_rfl) (wnt_none rfl) (lt_index_pv (.sl none 3 []) rfl rfl E66.und inf99 sz99 sd sd) ?_
  simp only [Int.toNat_natCast, Int.toNat_zero, getD_ints, getD_intss, getD_bools, getD_bytes, PV.cells, getD_ops, getD_pairs, getD_insts, getD_attrs, getD_attrss, getD_objs, getD_ordP]
  refine vd_light 7 rfl rfl rfl (by kernel_rfl) (by kernel_rfl) (by kernel_rfl) (wnt_none rfl) (lt_load_adr rfl Try.underlying99 rfl) ?_
  refine vd_light 8 rfl rfl rfl (by kernel_rfl) (by kernel_rfl) (by kernel_rfl) (wnt_none rfl) (lt_move_pv rfl) ?_
  refine vd_call 9 rfl (by kernel_rfl) (wnt_none rfl) Try.func122 rfl rfl rfl rfl (attrAt_sat (by omega)) ?_
  rintro _ _ ⟨rfl, rfl⟩
  refine ⟨rfl, rfl, .inl rfl, ?_⟩
  refine vd_stM ?_
  refine vd_light 10 rfl rfl rfl (by kernel_rfl) (by kernel_rfl) (by kernel_rfl) (wnt_none rfl) (lt_binI rfl rfl rfl trivial) ?_
  refine vd_nil (by kernel_rfl) ?_
  refine hK9 _ ?_
  refine vc_cond rfl (fun hc2 => ?_) (fun hc2 => ?_)
  ·try simp only [zq0, zq1, zq2, zq3, zq4, zq5, zq6, zq7, zq8, zq9, zqa, zqb, zqc, zqd, zqe, zqf] at hc2
   refine vc_region ?_
   refine vo_move_ref rfl rfl ?_
   refine vo_move_ref rfl rfl ?_
   refine vo_move_pv rfl rfl ?_
   refine vo_index_ref rfl rfl rfl rfl E28.und inf3 sz3 sd sd ?_
   try simp only [Int.toNat_natCast]
   refine vo_load_own rfl rfl rfl Try.underlying3 rfl sd (getD_ints _ _) rfl ?_
   try simp only [Int.toNat_natCast]
   refine vo_buildSlice E28 rfl rfl rfl rfl rfl ?_
   refine vo_stM ?_
   refine vo_append E28 rfl (by omega) rfl rfl rfl sd sd ?_
   refine vo_stM ?_
   try simp only [app_ints, app_intss, app_bools]
   refine vo_assign_ref rfl rfl ?_
   refine vo_nil ?_
   refine hK8 _ ?_
   refine vc_region ?_
   refine vo_move_pv rfl rfl ?_
   refine vo_binI rfl rfl rfl rfl sd ?_
   refine vo_assign_pv rfl rfl ?_
   refine vo_nil ?_
   change againE _ _ _ _ _ _ _ _ _ _
   refine againE_mk rfl rfl rfl rfl rfl rfl ⟨_, ?_, k + 1, rfl, ?_, rfl, (by rw [ownrs_yes (by omega) (by omega)]; rfl)⟩
   ·omega
   ·omega
  ·try simp only [zq0, zq1, zq2, zq3, zq4, zq5, zq6, zq7, zq8, zq9, zqa, zqb, zqc, zqd, zqe, zqf] at hc2
   refine vc_skip ?_
   refine hK8 _ ?_
   refine vc_region ?_
   refine vo_move_pv rfl rfl ?_
   refine vo_binI rfl rfl rfl rfl sd ?_
   refine vo_assign_pv rfl rfl ?_
   refine vo_nil ?_
   change againE _ _ _ _ _ _ _ _ _ _
   refine againE_mk rfl rfl rfl rfl rfl rfl ⟨_, ?_, k + 1, rfl, ?_, rfl, (by rw [ownrs_no (by omega) (by omega)]; rfl)⟩
   ·omega
   ·omega
 ·try simp only [zq0, zq1, zq2, zq3, zq4, zq5, zq6, zq7, zq8, zq9, zqa, zqb, zqc, zqd, zqe, zqf] at hc1
  refine vc_exit ?_
  refine hK4 _ ?_
  refine vc_seq fun K10 hK10 => ?_
  refine vc_region ?_
  refine vo_move_ref rfl rfl ?_
  refine vo_assign_ref rfl rfl ?_
  refine vo_nil ?_
  refine hK10 _ ?_
  refine vc_ret ?_
  change retQ _ _ _ _ _
  refine retQ_sel [1] (srows := [_]) (.inr rfl) hC rfl rfl rfl rfl rfl rfl rfl ?_
  rw [show (ordM w.bases c.toNat).take k = (ordM w.bases c.toNat) from take_all (by omega)]; exact ⟨rfl, rfl⟩


theorem ownersOwn_sat {w : WorldM} {c : Int} {name : Int}  (hw : SW w) : SatAt Try.prog 92 [.pv false (worldP w), i64 c, i64 name] [] (fun res rows => ∃ nl, res = [.ref 0] ∧ rows = [Row.own 3 1 nl true ((ownM w c name).map intP)]) := by
 have hw0 := hw
 obtain ⟨⟨b1, b2⟩, ⟨a1, a2⟩, o1, o2⟩ := hw
 refine sat_entry_G (rs := [(6, none)]) Try.func92 rfl rfl (Nat.le_of_ble_eq_true rfl) (Nat.le_of_ble_eq_true rfl) (resTs1 trivial) fun C hC => ?_
 rw [Try.ntmps92]
 replace hC : C.nb = 0 := hC
 refine vc_seq fun K1 hK1 => ?_
 refine vc_region ?_
 refine vo_box rfl rfl ?_
 refine vo_stM ?_
 refine vo_assign_pv rfl rfl ?_
 refine vo_own_nil 6 E28 rfl ?_
 refine vo_nil ?_
 refine hK1 _ ?_
 refine vc_seq fun K2 hK2 => ?_
 refine vc_seq fun K3 hK3 => ?_
 refine vc_region ?_
 refine vo_load_varS rfl rfl rfl Try.underlying69 rfl inf69 sz69 rfl rfl ?_
 refine vo_move_pv rfl rfl ?_
 refine vo_call0 Try.func90 rfl rfl rfl rfl (hasClassIn_sat hw0) ?_
 rintro _ _ ⟨rfl, rfl⟩
 refine ⟨rfl, rfl, .inl rfl, ?_⟩
 refine vo_stM ?_
 refine vo_not rfl rfl ?_
 refine vo_nil ?_
 refine hK3 _ ?_
 refine vc_cond rfl (fun hc1 => ?_) (fun hc1 => ?_)
 ·try simp only [zq0, zq1, zq2, zq3, zq4, zq5, zq6, zq7, zq8, zq9, zqa, zqb, zqc, zqd, zqe, zqf] at hc1
  refine vc_seq fun K4 hK4 => ?_
  refine vc_region ?_
  refine vo_assign_pv rfl rfl ?_
  refine vo_own_nil 6 E28 rfl ?_
  refine vo_nil ?_
  refine hK4 _ ?_
  refine vc_ret ?_
  change retQ _ _ _ _ _
  refine retQ_sel [2] (srows := [_]) (.inr rfl) hC rfl rfl rfl rfl rfl rfl rfl ?_
  have e : ownM w c name = [] := by unfold ownM; rw [if_neg (by assumption)]
  rw [e]; exact ⟨_, rfl, rfl⟩
 ·try simp only [zq0, zq1, zq2, zq3, zq4, zq5, zq6, zq7, zq8, zq9, zqa, zqb, zqc, zqd, zqe, zqf] at hc1
  have htl := ordT_len w.bases (c.toNat + 1)
  have hoi := ordIn_of hc1.1 hc1.2.1 hc1.2.2
  have hol := ordM_len hc1.1.1.1 (show c.toNat < w.bases.length by omega)
  refine vc_skip ?_
  refine hK2 _ ?_
  refine vc_seq fun K5 hK5 => ?_
  refine vc_region ?_
  refine vo_assign_pv rfl rfl ?_
  refine vo_nil ?_
  refine hK5 _ ?_
  refine vc_seq fun K6 hK6 => ?_
  refine vc_seq fun K7 hK7 => ?_
  refine vc_region ?_
  refine vo_fieldAddr_ptr rfl rfl Try.underlying69 rfl inf23 (by rw [sz23]; decide) ?_
  try simp only [Nat.zero_add]
  refine vo_load_var rfl rfl rfl Try.underlying23 rfl rfl ?_
  refine vo_move_pv rfl rfl ?_
  refine vo_call [] Try.func62 rfl rfl rfl rfl rfl rfl rfl (ordersUpTo_satI (by omega) (fun l hl => by have := b2 l hl; omega) hc1.1.1.1 hc1.2.1 (by have := hc1.2.2; omega)) ?_
  rintro _ _ ⟨rfl, rfl⟩
  refine ⟨Nat.le_of_ble_eq_true rfl, ⟨rfl, rfl, rfl, rfl⟩, .inl rfl, ?_⟩
  refine vo_stM ?_
  refine vo_treeown 2 (by omega) rfl ?_
  refine vo_stM ?_
  refine vo_expose 2 (by omega) rfl ?_
  refine vo_stM ?_
  refine vo_weaken 17 rfl ?_
  refine vo_stM ?_
  refine vo_move_pv rfl rfl ?_
  refine vo_index_pv (.sl (some true) 1 []) rfl rfl rfl E23.und inf28 sz28 sd sd ?_
  simp only [Int.toNat_natCast, Int.toNat_zero, getD_ints, getD_intss, getD_bools, getD_bytes, PV.cells, getD_ops, getD_pairs, getD_insts, getD_attrs, getD_attrss, getD_objs, getD_ordP]
  refine vo_load_adr rfl rfl Try.underlying28 rfl ?_
  rw [ordT_get w.bases (c.toNat + 1) c.toNat (by omega)]
  refine vo_stM ?_
  refine vo_len_pv rfl rfl Try.underlying28 ?_
  refine vo_move_pv rfl rfl ?_
  refine vo_nil ?_
  refine hK7 _ ?_
  refine vc_block ?_
  refine vc_own_nil 7 E28 rfl ?_
  refine vc_stM ?_
  refine vc_loopE [2, 3, 20, 21] [7, 22] [3] _ _ (fun mz vs rs => ∃ (k : Nat), mz = (ordM w.bases c.toNat).length - k ∧ (k ≤ (ordM w.bases c.toNat).length) ∧ vs = [.ref 3, i64 k] ∧ rs = [Row.own 3 1 none true ((ownrs w.attrs name ((ordM w.bases c.toNat).take k)).map intP)]) ((ordM w.bases c.toNat).length) rfl rfl (le_len hC rfl) ⟨rfl, rfl, rfl⟩ rfl ⟨0, rfl, Nat.zero_le _, rfl, rfl⟩ ?_
  rintro mz vs rs - - ⟨k, rfl, hk, rfl, rfl⟩
  refine vc_stM ?_
  have hrl := ownrs_len w.attrs name ((ordM w.bases c.toNat).take k)
  rw [List.length_take] at hrl
  refine vc_seq fun K8 hK8 => ?_
  refine vc_region ?_
  refine vo_binI rfl rfl rfl rfl trivial ?_
  refine vo_nil ?_
  refine hK8 _ ?_
  refine vc_seq fun K9 hK9 => ?_
  refine vc_cond rfl (fun hc2 => ?_) (fun hc2 => ?_)
  ·try simp only [zq0, zq1, zq2, zq3, zq4, zq5, zq6, zq7, zq8, zq9, zqa, zqb, zqc, zqd, zqe, zqf] at hc2
   have hin := hoi.2 _ (getD_mem (show k < (ordM w.bases c.toNat).length by omega) 0)
   have hak := (getD_all (p := fun l : List AttrM => l.length ≤ 2000000) a2 [] (by simp) ((ordM w.bases c.toNat).getD k 0).toNat)
   refine vc_skip ?_
   refine hK9 _ ?_
   refine vc_seq fun K10 hK10 => ?_
   refine vc_block ?_
   refine vc_seq fun K11 hK11 => ?_
   refine vc_region ?_
   refine vo_index_pv (.int .i64 0) rfl rfl rfl E28.und inf3 sz3 sd sd ?_
   simp only [Int.toNat_natCast, Int.toNat_zero, getD_ints, getD_intss, getD_bools, getD_bytes, PV.cells, getD_ops, getD_pairs, getD_insts, getD_attrs, getD_attrss, getD_objs, getD_ordP]
   refine vo_load_adr rfl rfl Try.underlying3 rfl ?_
   refine vo_assign_pv rfl rfl ?_
   refine vo_nil ?_
   refine hK11 _ ?_
   refine vc_seq fun K12 hK12 => ?_
   refine vc_region ?_
   refine vo_fieldAddr_ptr rfl rfl Try.underlying69 rfl inf66 (by rw [sz66]; decide) ?_
   try simp only [Nat.zero_add]
   refine vo_load_var rfl rfl rfl Try.underlying66 rfl rfl ?_
   refine vo_move_pv rfl rfl ?_
   refine vo_index_pv (.sl none 3 []) rfl rfl rfl E66.und inf99 sz99 sd sd ?_
   simp only [Int.toNat_natCast, Int.toNat_zero, getD_ints, getD_intss, getD_bools, getD_bytes, PV.cells, getD_ops, getD_pairs, getD_insts, getD_attrs, getD_attrss, getD_objs, getD_ordP]
   refine vo_load_adr rfl rfl Try.underlying99 rfl ?_
   refine vo_move_pv rfl rfl ?_
   refine vo_call0 Try.func126 rfl rfl rfl rfl (attrPlace_sat (by omega)) ?_
   rintro _ _ ⟨rfl, rfl⟩
   refine ⟨rfl, rfl, .inl rfl, ?_⟩
   refine vo_stM ?_
   refine vo_binI rfl rfl rfl rfl trivial ?_
   refine vo_nil ?_
   refine hK12 _ ?_
   refine vc_cond rfl (fun hc3 => ?_) (fun hc3 => ?_)
   ·try simp only [zq0, zq1, zq2, zq3, zq4, zq5, zq6, zq7, zq8, zq9, zqa, zqb, zqc, zqd, zqe, zqf] at hc3
    refine vc_region ?_
    refine vo_move_ref rfl rfl ?_
    refine vo_move_pv rfl rfl ?_
    refine vo_buildSlice E28 rfl rfl rfl rfl rfl ?_
    refine vo_stM ?_
    refine vo_append E28 rfl (by omega) rfl rfl rfl sd sd ?_
    refine vo_stM ?_
    try simp only [app_ints, app_intss, app_bools]
    refine vo_assign_ref rfl rfl ?_
    refine vo_nil ?_
    refine hK10 _ ?_
    refine vc_region ?_
    refine vo_binI rfl rfl rfl rfl sd ?_
    refine vo_move_pv rfl rfl ?_
    refine vo_nil ?_
    change againE _ _ _ _ _ _ _ _ _ _
    refine againE_mk rfl rfl rfl rfl rfl rfl ⟨_, ?_, k + 1, rfl, ?_, rfl, (by rw [ownrs_yes (by omega) (by omega)]; rfl)⟩
    ·omega
    ·omega
   ·try simp only [zq0, zq1, zq2, zq3, zq4, zq5, zq6, zq7, zq8, zq9, zqa, zqb, zqc, zqd, zqe, zqf] at hc3
    refine vc_skip ?_
    refine hK10 _ ?_
    refine vc_region ?_
    refine vo_binI rfl rfl rfl rfl sd ?_
    refine vo_move_pv rfl rfl ?_
    refine vo_nil ?_
    change againE _ _ _ _ _ _ _ _ _ _
    refine againE_mk rfl rfl rfl rfl rfl rfl ⟨_, ?_, k + 1, rfl, ?_, rfl, (by rw [ownrs_no (by omega) (by omega)]; rfl)⟩
    ·omega
    ·omega
  ·try simp only [zq0, zq1, zq2, zq3, zq4, zq5, zq6, zq7, zq8, zq9, zqa, zqb, zqc, zqd, zqe, zqf] at hc2
   refine vc_exit ?_
   refine hK6 _ ?_
   refine vc_seq fun K13 hK13 => ?_
   refine vc_region ?_
   refine vo_move_ref rfl rfl ?_
   refine vo_assign_ref rfl rfl ?_
   refine vo_nil ?_
   refine hK13 _ ?_
   refine vc_ret ?_
   change retQ _ _ _ _ _
   refine retQ_sel [3] (srows := [_]) (.inr rfl) hC rfl rfl rfl rfl rfl rfl rfl ?_
   have e : ownM w c name = ownrs w.attrs name ((ordM w.bases c.toNat).take k) := by unfold ownM; rw [if_pos (by assumption), show (ordM w.bases c.toNat).take k = (ordM w.bases c.toNat) from take_all (by omega)]
   rw [e]; exact ⟨_, rfl, rfl⟩

end Go.Vl

namespace Go.Vl
set_option linter.unusedVariables false
set_option linter.unusedSimpArgs false
open Go.Proofs

abbrev memP (o : Int) (a : AttrM) : PV := .agg [.int .i64 o, .int .i64 a.name, .int .i64 a.kind, .int .i64 a.value]
/-- A member of a class: one of six types. -/
def MemIs (ow : Int) (a : AttrM) (p : PV) : Prop := (ow < 0 ∧ p = .ifc 144 (.agg [])) ∨ ((0 ≤ ow ∧ a.kind ≠ 1 ∧ a.kind ≠ 2 ∧ a.kind ≠ 3 ∧ a.kind ≠ 4) ∧ p = .ifc 146 (memP ow a)) ∨ ((0 ≤ ow ∧ a.kind = 1) ∧ p = .ifc 148 (memP ow a)) ∨
  ((0 ≤ ow ∧ a.kind = 3) ∧ p = .ifc 149 (memP ow a)) ∨ ((0 ≤ ow ∧ a.kind = 2) ∧ p = .ifc 151 (memP ow a)) ∨ ((0 ≤ ow ∧ a.kind = 4) ∧ p = .ifc 152 (memP ow a))
def hkN (l : List AttrM) : List Int := (l.filter fun a => decide (a.kind = 2 ∨ a.kind = 3)).map (·.name)
def hkO (c : Int) : List Int → Int
  | [] => -1
  | x :: r => if x = c then hkO c r else x
theorem take_oneA {l : List AttrM} {k : Nat} (h : k < l.length) : l.take (k+1) = l.take k ++ [l.getD k ⟨0, 0, 0⟩] := by rw [List.take_add_one, List.getD, List.getElem?_eq_getElem h]; rfl
theorem hkN_yes {l : List AttrM} {k : Nat} (h : k < l.length) (hp : (l.getD k ⟨0, 0, 0⟩).kind = 2 ∨ (l.getD k ⟨0, 0, 0⟩).kind = 3) : hkN (l.take (k+1)) = hkN (l.take k) ++ [(l.getD k ⟨0, 0, 0⟩).name] := by
  unfold hkN; rw [take_oneA h, List.filter_append, List.filter_cons_of_pos (by simpa using hp), List.map_append]; rfl
theorem hkN_no {l : List AttrM} {k : Nat} (h : k < l.length) (hp : ¬ ((l.getD k ⟨0, 0, 0⟩).kind = 2 ∨ (l.getD k ⟨0, 0, 0⟩).kind = 3)) : hkN (l.take (k+1)) = hkN (l.take k) := by
  unfold hkN; rw [take_oneA h, List.filter_append, List.filter_cons_of_neg (by simpa using hp)]; simp
theorem hkN_len (l : List AttrM) : (hkN l).length ≤ l.length := by unfold hkN; rw [List.length_map]; exact List.length_filter_le _ _
theorem hkO_drop {c : Int} {o : List Int} {k : Nat} (h : k < o.length) : hkO c (o.drop k) = if o.getD k 0 = c then hkO c (o.drop (k+1)) else o.getD k 0 := by
  have e : o.getD k 0 = o[k] := by simp [List.getD, List.getElem?_eq_getElem h]
  rw [List.drop_eq_getElem_cons h, e]; rfl
theorem hkO_notin {c : Int} {o : List Int} (h : c ∉ o) : hkO c o = if 0 < o.length then o.getD 0 0 else -1 := by
  cases o with
  | nil => rfl
  | cons x r =>
    have : x ≠ c := fun e => h (by simp [e])
    simp [hkO, this]
theorem hkO_nodup {c : Int} {o : List Int} (h : o.Nodup) : hkO c o = if 0 < o.length ∧ o.getD 0 0 = c then (if 1 < o.length then o.getD 1 0 else -1) else if 0 < o.length then o.getD 0 0 else -1 := by
  cases o with
  | nil => rfl
  | cons x r =>
    by_cases e : x = c
    · have h9 : c ∉ r := by rw [← e]; exact (List.nodup_cons.1 h).1
      subst e
      simp only [hkO, if_true, hkO_notin h9]
      cases r <;> simp
    · simp [hkO, e]
def hasC (w : WorldM) (c : Int) : Prop := VWorld w ∧ 0 ≤ c ∧ c ≤ (w.bases.length : Int) - 1
instance (w : WorldM) (c : Int) : Decidable (hasC w c) := by unfold hasC; exact inferInstance
def hookN (w : WorldM) (c : Int) : List Int := if hasC w c then hkN (w.attrs.getD c.toNat []) else []
def hookO (w : WorldM) (c hook : Int) : Int := if hasC w c then hkO c (ownM w c hook) else -1
theorem own_nodup {w : WorldM} {c name : Int} (hv : hasC w c) : (ownM w c name).Nodup := by
  rw [ownM_yes hv]
  have hc : c.toNat < w.bases.length := by have := hv.2; omega
  exact (ordM_ok hv.1.1.1 c.toNat hc).1.filter _
theorem hookN_len {w : WorldM} {c : Int} (hs : SW w) : (hookN w c).length ≤ 2000000 := by
  unfold hookN
  split
  · exact Nat.le_trans (hkN_len _) (getD_all (p := fun l : List AttrM => l.length ≤ 2000000) hs.2.1.2 [] (by simp) c.toNat)
  · simp
theorem getD_cut1 {X : List Int} (h : 1 < X.length) : (List.take (X.length - 1) (X.drop 1)).getD 0 0 = X.getD 1 0 := by
  simp only [List.getD, List.getElem?_take, List.getElem?_drop]
  rw [if_pos (by omega)]
theorem memberOf_sat {ow : Int} {a : AttrM}   : SatAt Try.prog 91 [i64 ow, .pv false (attrP a)] [] (fun res rows => ∃ p, MemIs ow a p ∧ res = [.pv true p] ∧ rows = []) := by
 refine sat_entry_G (rs := [(4, none)]) Try.func91 rfl rfl (Nat.le_of_ble_eq_true rfl) (Nat.le_of_ble_eq_true rfl) (resTs1 trivial) fun C hC => ?_
 rw [Try.ntmps91]
 replace hC : C.nb = 0 := hC
 refine vc_seq fun K1 hK1 => ?_
 refine vc_region ?_
 refine vo_box rfl rfl ?_
 refine vo_stM ?_
 refine vo_assign rfl ?_
 refine vo_stM ?_
 refine vo_nil ?_
 refine hK1 _ ?_
 refine vc_seq fun K2 hK2 => ?_
 refine vc_seq fun K3 hK3 => ?_
 refine vc_region ?_
 refine vo_move_pv rfl rfl ?_
 refine vo_binI rfl rfl rfl rfl trivial ?_
 refine vo_nil ?_
 refine hK3 _ ?_
 refine vc_cond rfl (fun hc1 => ?_) (fun hc1 => ?_)
 ·try simp only [zq0, zq1, zq2, zq3, zq4, zq5, zq6, zq7, zq8, zq9, zqa, zqb, zqc, zqd, zqe, zqf] at hc1
  refine vc_seq fun K4 hK4 => ?_
  refine vc_region ?_
  refine vo_build S144 rfl rfl rfl ?_
  refine vo_stM ?_
  refine vo_makeIface rfl rfl Try.underlying144 rfl ?_
  refine vo_stM ?_
  refine vo_assign rfl ?_
  refine vo_stM ?_
  refine vo_nil ?_
  refine hK4 _ ?_
  refine vc_ret ?_
  change retQ _ _ _ _ _
  refine retQ_sel [] (srows := []) (.inr rfl) hC rfl rfl rfl rfl rfl rfl rfl ?_
  first
   | exact ⟨_, .inl ⟨by omega, rfl⟩, rfl, rfl⟩
   | exact ⟨_, .inr (.inr (.inl ⟨⟨by omega, by omega⟩, rfl⟩)), rfl, rfl⟩
   | exact ⟨_, .inr (.inr (.inr (.inl ⟨⟨by omega, by omega⟩, rfl⟩))), rfl, rfl⟩
   | exact ⟨_, .inr (.inr (.inr (.inr (.inl ⟨⟨by omega, by omega⟩, rfl⟩)))), rfl, rfl⟩
   | exact ⟨_, .inr (.inr (.inr (.inr (.inr ⟨⟨by omega, by omega⟩, rfl⟩)))), rfl, rfl⟩
   | exact ⟨_, .inr (.inl ⟨⟨by omega, by omega, by omega, by omega, by omega⟩, rfl⟩), rfl, rfl⟩
 ·try simp only [zq0, zq1, zq2, zq3, zq4, zq5, zq6, zq7, zq8, zq9, zqa, zqb, zqc, zqd, zqe, zqf] at hc1
  refine vc_skip ?_
  refine hK2 _ ?_
  refine vc_seq fun K5 hK5 => ?_
  refine vc_region ?_
  refine vo_move_pv rfl rfl ?_
  refine vo_load_varS rfl rfl rfl Try.underlying101 rfl inf101 sz101 rfl rfl ?_
  refine vo_build S146 rfl rfl rfl ?_
  refine vo_stM ?_
  refine vo_alloc Z146 rfl ?_
  refine vo_stM ?_
  refine vo_store_varS rfl rfl rfl inf146 sz146 rfl ?_
  refine vo_stM ?_
  refine vo_nil ?_
  refine hK5 _ ?_
  refine vc_seq fun K6 hK6 => ?_
  refine vc_seq fun K7 hK7 => ?_
  refine vc_region ?_
  refine vo_fieldAddr_ptr rfl rfl Try.underlying101 rfl inf3 (by rw [sz3]; decide) ?_
  try simp only [Nat.zero_add]
  refine vo_load_var rfl rfl rfl Try.underlying3 rfl rfl ?_
  refine vo_nil ?_
  refine hK7 _ ?_
  refine vc_block ?_
  refine vc_seq fun K8 hK8 => ?_
  refine vc_region ?_
  refine vo_binI rfl rfl rfl rfl trivial ?_
  refine vo_assign_pv rfl rfl ?_
  refine vo_nil ?_
  refine hK8 _ ?_
  refine vc_cond rfl (fun hc2 => ?_) (fun hc2 => ?_)
  ·try simp only [zq0, zq1, zq2, zq3, zq4, zq5, zq6, zq7, zq8, zq9, zqa, zqb, zqc, zqd, zqe, zqf] at hc2
   refine vc_seq fun K9 hK9 => ?_
   refine vc_region ?_
   refine vo_load_varS rfl rfl rfl Try.underlying146 rfl inf146 sz146 rfl rfl ?_
   refine vo_build S148 rfl rfl rfl ?_
   refine vo_stM ?_
   refine vo_makeIface rfl rfl Try.underlying148 rfl ?_
   refine vo_stM ?_
   refine vo_assign rfl ?_
   refine vo_stM ?_
   refine vo_nil ?_
   refine hK9 _ ?_
   refine vc_ret ?_
   change retQ _ _ _ _ _
   refine retQ_sel [] (srows := []) (.inr rfl) hC rfl rfl rfl rfl rfl rfl rfl ?_
   first
    | exact ⟨_, .inl ⟨by omega, rfl⟩, rfl, rfl⟩
    | exact ⟨_, .inr (.inr (.inl ⟨⟨by omega, by omega⟩, rfl⟩)), rfl, rfl⟩
    | exact ⟨_, .inr (.inr (.inr (.inl ⟨⟨by omega, by omega⟩, rfl⟩))), rfl, rfl⟩
    | exact ⟨_, .inr (.inr (.inr (.inr (.inl ⟨⟨by omega, by omega⟩, rfl⟩)))), rfl, rfl⟩
    | exact ⟨_, .inr (.inr (.inr (.inr (.inr ⟨⟨by omega, by omega⟩, rfl⟩)))), rfl, rfl⟩
    | exact ⟨_, .inr (.inl ⟨⟨by omega, by omega, by omega, by omega, by omega⟩, rfl⟩), rfl, rfl⟩
  ·try simp only [zq0, zq1, zq2, zq3, zq4, zq5, zq6, zq7, zq8, zq9, zqa, zqb, zqc, zqd, zqe, zqf] at hc2
   refine vc_seq fun K10 hK10 => ?_
   refine vc_region ?_
   refine vo_binI rfl rfl rfl rfl trivial ?_
   refine vo_assign_pv rfl rfl ?_
   refine vo_nil ?_
   refine hK10 _ ?_
   refine vc_cond rfl (fun hc3 => ?_) (fun hc3 => ?_)
   ·try simp only [zq0, zq1, zq2, zq3, zq4, zq5, zq6, zq7, zq8, zq9, zqa, zqb, zqc, zqd, zqe, zqf] at hc3
    refine vc_seq fun K11 hK11 => ?_
    refine vc_region ?_
    refine vo_load_varS rfl rfl rfl Try.underlying146 rfl inf146 sz146 rfl rfl ?_
    refine vo_build S149 rfl rfl rfl ?_
    refine vo_stM ?_
    refine vo_build S151 rfl rfl rfl ?_
    refine vo_stM ?_
    refine vo_makeIface rfl rfl Try.underlying151 rfl ?_
    refine vo_stM ?_
    refine vo_assign rfl ?_
    refine vo_stM ?_
    refine vo_nil ?_
    refine hK11 _ ?_
    refine vc_ret ?_
    change retQ _ _ _ _ _
    refine retQ_sel [] (srows := []) (.inr rfl) hC rfl rfl rfl rfl rfl rfl rfl ?_
    first
     | exact ⟨_, .inl ⟨by omega, rfl⟩, rfl, rfl⟩
     | exact ⟨_, .inr (.inr (.inl ⟨⟨by omega, by omega⟩, rfl⟩)), rfl, rfl⟩
     | exact ⟨_, .inr (.inr (.inr (.inl ⟨⟨by omega, by omega⟩, rfl⟩))), rfl, rfl⟩
     | exact ⟨_, .inr (.inr (.inr (.inr (.inl ⟨⟨by omega, by omega⟩, rfl⟩)))), rfl, rfl⟩
     | exact ⟨_, .inr (.inr (.inr (.inr (.inr ⟨⟨by omega, by omega⟩, rfl⟩)))), rfl, rfl⟩
     | exact ⟨_, .inr (.inl ⟨⟨by omega, by omega, by omega, by omega, by omega⟩, rfl⟩), rfl, rfl⟩
   ·try simp only [zq0, zq1, zq2, zq3, zq4, zq5, zq6, zq7, zq8, zq9, zqa, zqb, zqc, zqd, zqe, zqf] at hc3
    refine vc_seq fun K12 hK12 => ?_
    refine vc_region ?_
    refine vo_binI rfl rfl rfl rfl trivial ?_
    refine vo_assign_pv rfl rfl ?_
    refine vo_nil ?_
    refine hK12 _ ?_
    refine vc_cond rfl (fun hc4 => ?_) (fun hc4 => ?_)
    ·try simp only [zq0, zq1, zq2, zq3, zq4, zq5, zq6, zq7, zq8, zq9, zqa, zqb, zqc, zqd, zqe, zqf] at hc4
     refine vc_seq fun K13 hK13 => ?_
     refine vc_region ?_
     refine vo_load_varS rfl rfl rfl Try.underlying146 rfl inf146 sz146 rfl rfl ?_
     refine vo_build S149 rfl rfl rfl ?_
     refine vo_stM ?_
     refine vo_makeIface rfl rfl Try.underlying149 rfl ?_
     refine vo_stM ?_
     refine vo_assign rfl ?_
     refine vo_stM ?_
     refine vo_nil ?_
     refine hK13 _ ?_
     refine vc_ret ?_
     change retQ _ _ _ _ _
     refine retQ_sel [] (srows := []) (.inr rfl) hC rfl rfl rfl rfl rfl rfl rfl ?_
     first
      | exact ⟨_, .inl ⟨by omega, rfl⟩, rfl, rfl⟩
      | exact ⟨_, .inr (.inr (.inl ⟨⟨by omega, by omega⟩, rfl⟩)), rfl, rfl⟩
      | exact ⟨_, .inr (.inr (.inr (.inl ⟨⟨by omega, by omega⟩, rfl⟩))), rfl, rfl⟩
      | exact ⟨_, .inr (.inr (.inr (.inr (.inl ⟨⟨by omega, by omega⟩, rfl⟩)))), rfl, rfl⟩
      | exact ⟨_, .inr (.inr (.inr (.inr (.inr ⟨⟨by omega, by omega⟩, rfl⟩)))), rfl, rfl⟩
      | exact ⟨_, .inr (.inl ⟨⟨by omega, by omega, by omega, by omega, by omega⟩, rfl⟩), rfl, rfl⟩
    ·try simp only [zq0, zq1, zq2, zq3, zq4, zq5, zq6, zq7, zq8, zq9, zqa, zqb, zqc, zqd, zqe, zqf] at hc4
     refine vc_seq fun K14 hK14 => ?_
     refine vc_region ?_
     refine vo_binI rfl rfl rfl rfl trivial ?_
     refine vo_assign_pv rfl rfl ?_
     refine vo_nil ?_
     refine hK14 _ ?_
     refine vc_cond rfl (fun hc5 => ?_) (fun hc5 => ?_)
     ·try simp only [zq0, zq1, zq2, zq3, zq4, zq5, zq6, zq7, zq8, zq9, zqa, zqb, zqc, zqd, zqe, zqf] at hc5
      refine vc_seq fun K15 hK15 => ?_
      refine vc_region ?_
      refine vo_load_varS rfl rfl rfl Try.underlying146 rfl inf146 sz146 rfl rfl ?_
      refine vo_build S152 rfl rfl rfl ?_
      refine vo_stM ?_
      refine vo_makeIface rfl rfl Try.underlying152 rfl ?_
      refine vo_stM ?_
      refine vo_assign rfl ?_
      refine vo_stM ?_
      refine vo_nil ?_
      refine hK15 _ ?_
      refine vc_ret ?_
      change retQ _ _ _ _ _
      refine retQ_sel [] (srows := []) (.inr rfl) hC rfl rfl rfl rfl rfl rfl rfl ?_
      first
       | exact ⟨_, .inl ⟨by omega, rfl⟩, rfl, rfl⟩
       | exact ⟨_, .inr (.inr (.inl ⟨⟨by omega, by omega⟩, rfl⟩)), rfl, rfl⟩
       | exact ⟨_, .inr (.inr (.inr (.inl ⟨⟨by omega, by omega⟩, rfl⟩))), rfl, rfl⟩
       | exact ⟨_, .inr (.inr (.inr (.inr (.inl ⟨⟨by omega, by omega⟩, rfl⟩)))), rfl, rfl⟩
       | exact ⟨_, .inr (.inr (.inr (.inr (.inr ⟨⟨by omega, by omega⟩, rfl⟩)))), rfl, rfl⟩
       | exact ⟨_, .inr (.inl ⟨⟨by omega, by omega, by omega, by omega, by omega⟩, rfl⟩), rfl, rfl⟩
     ·try simp only [zq0, zq1, zq2, zq3, zq4, zq5, zq6, zq7, zq8, zq9, zqa, zqb, zqc, zqd, zqe, zqf] at hc5
      refine vc_skip ?_
      refine hK6 _ ?_
      refine vc_seq fun K16 hK16 => ?_
      refine vc_region ?_
      refine vo_load_varS rfl rfl rfl Try.underlying146 rfl inf146 sz146 rfl rfl ?_
      refine vo_makeIface rfl rfl Try.underlying146 rfl ?_
      refine vo_stM ?_
      refine vo_assign rfl ?_
      refine vo_stM ?_
      refine vo_nil ?_
      refine hK16 _ ?_
      refine vc_ret ?_
      change retQ _ _ _ _ _
      refine retQ_sel [] (srows := []) (.inr rfl) hC rfl rfl rfl rfl rfl rfl rfl ?_
      first
       | exact ⟨_, .inl ⟨by omega, rfl⟩, rfl, rfl⟩
       | exact ⟨_, .inr (.inr (.inl ⟨⟨by omega, by omega⟩, rfl⟩)), rfl, rfl⟩
       | exact ⟨_, .inr (.inr (.inr (.inl ⟨⟨by omega, by omega⟩, rfl⟩))), rfl, rfl⟩
       | exact ⟨_, .inr (.inr (.inr (.inr (.inl ⟨⟨by omega, by omega⟩, rfl⟩)))), rfl, rfl⟩
       | exact ⟨_, .inr (.inr (.inr (.inr (.inr ⟨⟨by omega, by omega⟩, rfl⟩)))), rfl, rfl⟩
       | exact ⟨_, .inr (.inl ⟨⟨by omega, by omega, by omega, by omega, by omega⟩, rfl⟩), rfl, rfl⟩


theorem hooksOwn_sat {w : WorldM} {c : Int} {hook : Int}  (hw : SW w) : SatAt Try.prog 52 [.pv false (worldP w), i64 c, i64 hook] [] (fun res rows => ∃ nl, res = [.ref 0, i64 (hookO w c hook)] ∧ rows = [Row.own 3 1 nl true ((hookN w c).map intP)]) := by
 have hw0 := hw
 obtain ⟨⟨b1, b2⟩, ⟨a1, a2⟩, o1, o2⟩ := hw
 refine sat_entry_G (rs := [(6, none), (7, none)]) Try.func52 rfl rfl (Nat.le_of_ble_eq_true rfl) (Nat.le_of_ble_eq_true rfl) (resTs2 trivial trivial) fun C hC => ?_
 rw [Try.ntmps52]
 replace hC : C.nb = 0 := hC
 refine vc_seq fun K1 hK1 => ?_
 refine vc_region ?_
 refine vo_box rfl rfl ?_
 refine vo_stM ?_
 refine vo_assign_pv rfl rfl ?_
 refine vo_own_nil 6 E28 rfl ?_
 refine vo_assign_pv rfl rfl ?_
 refine vo_nil ?_
 refine hK1 _ ?_
 refine vc_seq fun K2 hK2 => ?_
 refine vc_seq fun K3 hK3 => ?_
 refine vc_region ?_
 refine vo_load_varS rfl rfl rfl Try.underlying69 rfl inf69 sz69 rfl rfl ?_
 refine vo_move_pv rfl rfl ?_
 refine vo_call0 Try.func90 rfl rfl rfl rfl (hasClassIn_sat hw0) ?_
 rintro _ _ ⟨rfl, rfl⟩
 refine ⟨rfl, rfl, .inl rfl, ?_⟩
 refine vo_stM ?_
 refine vo_not rfl rfl ?_
 refine vo_nil ?_
 refine hK3 _ ?_
 refine vc_cond rfl (fun hc1 => ?_) (fun hc1 => ?_)
 ·try simp only [zq0, zq1, zq2, zq3, zq4, zq5, zq6, zq7, zq8, zq9, zqa, zqb, zqc, zqd, zqe, zqf] at hc1
  refine vc_seq fun K4 hK4 => ?_
  refine vc_region ?_
  refine vo_assign_pv rfl rfl ?_
  refine vo_own_nil 6 E28 rfl ?_
  refine vo_assign_pv rfl rfl ?_
  refine vo_nil ?_
  refine hK4 _ ?_
  refine vc_ret ?_
  change retQ _ _ _ _ _
  refine retQ_sel [2] (srows := [_]) (.inr rfl) hC rfl rfl rfl rfl rfl rfl rfl ?_
  have e1 : hookN w c = [] := by unfold hookN; rw [if_neg (by assumption)]
  have e2 : hookO w c hook = -1 := by unfold hookO; rw [if_neg (by assumption)]
  rw [e1, e2]; exact ⟨_, rfl, rfl⟩
 ·try simp only [zq0, zq1, zq2, zq3, zq4, zq5, zq6, zq7, zq8, zq9, zqa, zqb, zqc, zqd, zqe, zqf] at hc1
  have hcv : hasC w c := hc1
  have hca := hc1.1.2.1
  have hak := getD_all (p := fun l : List AttrM => l.length ≤ 2000000) a2 [] (by simp) c.toNat
  have hol := ownM_len (w := w) (c := c) (name := hook)
  refine vc_skip ?_
  refine hK2 _ ?_
  refine vc_seq fun K5 hK5 => ?_
  refine vc_region ?_
  refine vo_assign_pv rfl rfl ?_
  refine vo_nil ?_
  refine hK5 _ ?_
  refine vc_seq fun K6 hK6 => ?_
  refine vc_seq fun K7 hK7 => ?_
  refine vc_region ?_
  refine vo_fieldAddr_ptr rfl rfl Try.underlying69 rfl inf66 (by rw [sz66]; decide) ?_
  try simp only [Nat.zero_add]
  refine vo_load_var rfl rfl rfl Try.underlying66 rfl rfl ?_
  refine vo_move_pv rfl rfl ?_
  refine vo_index_pv (.sl none 3 []) rfl rfl rfl E66.und inf99 sz99 sd sd ?_
  simp only [Int.toNat_natCast, Int.toNat_zero, getD_ints, getD_intss, getD_bools, getD_bytes, PV.cells, getD_ops, getD_pairs, getD_insts, getD_attrs, getD_attrss, getD_objs, getD_ordP]
  refine vo_load_adr rfl rfl Try.underlying99 rfl ?_
  refine vo_len_pv rfl rfl Try.underlying99 ?_
  refine vo_move_pv rfl rfl ?_
  refine vo_nil ?_
  refine hK7 _ ?_
  refine vc_block ?_
  refine vc_own_nil 8 E28 rfl ?_
  refine vc_stM ?_
  refine vc_loopE [1, 2, 3, 23, 24] [8, 25] [2] _ _ (fun mz vs rs => ∃ (k : Nat), mz = (w.attrs.getD c.toNat []).length - k ∧ (k ≤ (w.attrs.getD c.toNat []).length) ∧ vs = [.ref 2, i64 k] ∧ rs = [Row.own 3 1 none true ((hkN ((w.attrs.getD c.toNat []).take k)).map intP)]) ((w.attrs.getD c.toNat []).length) rfl rfl (le_len hC rfl) ⟨rfl, rfl, rfl⟩ rfl ⟨0, rfl, Nat.zero_le _, rfl, rfl⟩ ?_
  rintro mz vs rs - - ⟨k, rfl, hk, rfl, rfl⟩
  refine vc_stM ?_
  have hkl := hkN_len ((w.attrs.getD c.toNat []).take k)
  rw [List.length_take] at hkl
  refine vc_seq fun K8 hK8 => ?_
  refine vc_region ?_
  refine vo_binI rfl rfl rfl rfl trivial ?_
  refine vo_nil ?_
  refine hK8 _ ?_
  refine vc_seq fun K9 hK9 => ?_
  refine vc_cond rfl (fun hc2 => ?_) (fun hc2 => ?_)
  ·try simp only [zq0, zq1, zq2, zq3, zq4, zq5, zq6, zq7, zq8, zq9, zqa, zqb, zqc, zqd, zqe, zqf] at hc2
   refine vc_skip ?_
   refine hK9 _ ?_
   refine vc_seq fun K10 hK10 => ?_
   refine vc_block ?_
   refine vc_seq fun K11 hK11 => ?_
   refine vc_region ?_
   refine vo_index_pv (.agg [(.int .i64 0), (.int .i64 0), (.int .i64 0)]) rfl rfl rfl E99.und inf101 sz101 sd sd ?_
   simp only [Int.toNat_natCast, Int.toNat_zero, getD_ints, getD_intss, getD_bools, getD_bytes, PV.cells, getD_ops, getD_pairs, getD_insts, getD_attrs, getD_attrss, getD_objs, getD_ordP]
   refine vo_load_adrS rfl rfl Try.underlying101 rfl inf101 sz101 rfl ?_
   refine vo_st (by (try simp only [St.put, PV.cells, PV.scal, List.drop_succ_cons, List.drop_zero, List.take_succ_cons, List.take_zero, List.map_cons, List.map_nil, Bool.or_true, Bool.or_false, Bool.false_or, Bool.true_or, opP, pairP, instP, heapP]); exact eq_refl _) ?_
   refine vo_alloc Z101 rfl ?_
   refine vo_stM ?_
   refine vo_store_varS rfl rfl rfl inf101 sz101 rfl ?_
   refine vo_stM ?_
   refine vo_nil ?_
   refine hK11 _ ?_
   refine vc_seq fun K12 hK12 => ?_
   refine vc_region ?_
   refine vo_move_pv rfl rfl ?_
   refine vo_load_varS rfl rfl rfl Try.underlying101 rfl inf101 sz101 rfl rfl ?_
   refine vo_call0 Try.func91 rfl rfl rfl rfl memberOf_sat ?_
   rintro _ _ ⟨p, hp, rfl, rfl⟩
   refine ⟨rfl, rfl, .inl rfl, ?_⟩
   refine vo_stM ?_
   rcases hp with ⟨hk, rfl⟩ | ⟨hk, rfl⟩ | ⟨hk, rfl⟩ | ⟨hk, rfl⟩ | ⟨hk, rfl⟩ | ⟨hk, rfl⟩
   ·skip
    refine vo_assert_no rfl rfl Try.underlying107 inf144 (by kernel_rfl) (fun w => by kernel_rfl) ?_
    refine vo_stM ?_
    refine vo_move rfl ?_
    refine vo_stM ?_
    refine vo_extract rfl rfl rfl ?_
    refine vo_extract rfl rfl rfl ?_
    refine vo_assign_pv rfl rfl ?_
    refine vo_assign_pv rfl rfl ?_
    refine vo_nil ?_
    refine hK12 _ ?_
    refine vc_seq fun K13 hK13 => ?_
    refine vc_region ?_
    refine vo_move_pv rfl rfl ?_
    refine vo_nil ?_
    refine hK13 _ ?_
    refine vc_cond_f rfl ?_
    refine vc_skip ?_
    refine hK10 _ ?_
    refine vc_region ?_
    refine vo_binI rfl rfl rfl rfl sd ?_
    refine vo_move_pv rfl rfl ?_
    refine vo_nil ?_
    change againE _ _ _ _ _ _ _ _ _ _
    refine againE_mk rfl rfl rfl rfl rfl rfl ⟨_, ?_, k + 1, rfl, ?_, rfl, (by first | (rw [hkN_yes (by omega) (by omega)]; rfl) | (rw [hkN_no (by omega) (by omega)]; rfl) | (exfalso; omega))⟩
    ·omega
    ·omega
   ·skip
    refine vo_assert_no rfl rfl Try.underlying107 inf146 (by kernel_rfl) (fun w => by kernel_rfl) ?_
    refine vo_stM ?_
    refine vo_move rfl ?_
    refine vo_stM ?_
    refine vo_extract rfl rfl rfl ?_
    refine vo_extract rfl rfl rfl ?_
    refine vo_assign_pv rfl rfl ?_
    refine vo_assign_pv rfl rfl ?_
    refine vo_nil ?_
    refine hK12 _ ?_
    refine vc_seq fun K14 hK14 => ?_
    refine vc_region ?_
    refine vo_move_pv rfl rfl ?_
    refine vo_nil ?_
    refine hK14 _ ?_
    refine vc_cond_f rfl ?_
    refine vc_skip ?_
    refine hK10 _ ?_
    refine vc_region ?_
    refine vo_binI rfl rfl rfl rfl sd ?_
    refine vo_move_pv rfl rfl ?_
    refine vo_nil ?_
    change againE _ _ _ _ _ _ _ _ _ _
    refine againE_mk rfl rfl rfl rfl rfl rfl ⟨_, ?_, k + 1, rfl, ?_, rfl, (by first | (rw [hkN_yes (by omega) (by omega)]; rfl) | (rw [hkN_no (by omega) (by omega)]; rfl) | (exfalso; omega))⟩
    ·omega
    ·omega
   ·skip
    refine vo_assert_no rfl rfl Try.underlying107 inf148 (by kernel_rfl) (fun w => by kernel_rfl) ?_
    refine vo_stM ?_
    refine vo_move rfl ?_
    refine vo_stM ?_
    refine vo_extract rfl rfl rfl ?_
    refine vo_extract rfl rfl rfl ?_
    refine vo_assign_pv rfl rfl ?_
    refine vo_assign_pv rfl rfl ?_
    refine vo_nil ?_
    refine hK12 _ ?_
    refine vc_seq fun K15 hK15 => ?_
    refine vc_region ?_
    refine vo_move_pv rfl rfl ?_
    refine vo_nil ?_
    refine hK15 _ ?_
    refine vc_cond_f rfl ?_
    refine vc_skip ?_
    refine hK10 _ ?_
    refine vc_region ?_
    refine vo_binI rfl rfl rfl rfl sd ?_
    refine vo_move_pv rfl rfl ?_
    refine vo_nil ?_
    change againE _ _ _ _ _ _ _ _ _ _
    refine againE_mk rfl rfl rfl rfl rfl rfl ⟨_, ?_, k + 1, rfl, ?_, rfl, (by first | (rw [hkN_yes (by omega) (by omega)]; rfl) | (rw [hkN_no (by omega) (by omega)]; rfl) | (exfalso; omega))⟩
    ·omega
    ·omega
   ·skip
    refine vo_assert_yes rfl rfl Try.underlying107 inf149 (by kernel_rfl) ?_
    refine vo_stM ?_
    refine vo_move rfl ?_
    refine vo_stM ?_
    refine vo_extract rfl rfl rfl ?_
    refine vo_extract rfl rfl rfl ?_
    refine vo_assign rfl ?_
    refine vo_stM ?_
    refine vo_assign_pv rfl rfl ?_
    refine vo_nil ?_
    refine hK12 _ ?_
    refine vc_seq fun K16 hK16 => ?_
    refine vc_region ?_
    refine vo_move_pv rfl rfl ?_
    refine vo_nil ?_
    refine hK16 _ ?_
    refine vc_cond_t rfl ?_
    refine vc_region ?_
    refine vo_move_ref rfl rfl ?_
    refine vo_fieldAddr_ptr rfl rfl Try.underlying101 rfl inf3 (by rw [sz3]; decide) ?_
    try simp only [Nat.zero_add]
    refine vo_load_var rfl rfl rfl Try.underlying3 rfl rfl ?_
    refine vo_buildSlice E28 rfl rfl rfl rfl rfl ?_
    refine vo_stM ?_
    refine vo_append E28 rfl (by omega) rfl rfl rfl sd sd ?_
    refine vo_stM ?_
    try simp only [app_ints, app_intss, app_bools]
    refine vo_assign_ref rfl rfl ?_
    refine vo_nil ?_
    refine hK10 _ ?_
    refine vc_region ?_
    refine vo_binI rfl rfl rfl rfl sd ?_
    refine vo_move_pv rfl rfl ?_
    refine vo_nil ?_
    change againE _ _ _ _ _ _ _ _ _ _
    refine againE_mk rfl rfl rfl rfl rfl rfl ⟨_, ?_, k + 1, rfl, ?_, rfl, (by first | (rw [hkN_yes (by omega) (by omega)]; rfl) | (rw [hkN_no (by omega) (by omega)]; rfl) | (exfalso; omega))⟩
    ·omega
    ·omega
   ·skip
    refine vo_assert_yes rfl rfl Try.underlying107 inf151 (by kernel_rfl) ?_
    refine vo_stM ?_
    refine vo_move rfl ?_
    refine vo_stM ?_
    refine vo_extract rfl rfl rfl ?_
    refine vo_extract rfl rfl rfl ?_
    refine vo_assign rfl ?_
    refine vo_stM ?_
    refine vo_assign_pv rfl rfl ?_
    refine vo_nil ?_
    refine hK12 _ ?_
    refine vc_seq fun K17 hK17 => ?_
    refine vc_region ?_
    refine vo_move_pv rfl rfl ?_
    refine vo_nil ?_
    refine hK17 _ ?_
    refine vc_cond_t rfl ?_
    refine vc_region ?_
    refine vo_move_ref rfl rfl ?_
    refine vo_fieldAddr_ptr rfl rfl Try.underlying101 rfl inf3 (by rw [sz3]; decide) ?_
    try simp only [Nat.zero_add]
    refine vo_load_var rfl rfl rfl Try.underlying3 rfl rfl ?_
    refine vo_buildSlice E28 rfl rfl rfl rfl rfl ?_
    refine vo_stM ?_
    refine vo_append E28 rfl (by omega) rfl rfl rfl sd sd ?_
    refine vo_stM ?_
    try simp only [app_ints, app_intss, app_bools]
    refine vo_assign_ref rfl rfl ?_
    refine vo_nil ?_
    refine hK10 _ ?_
    refine vc_region ?_
    refine vo_binI rfl rfl rfl rfl sd ?_
    refine vo_move_pv rfl rfl ?_
    refine vo_nil ?_
    change againE _ _ _ _ _ _ _ _ _ _
    refine againE_mk rfl rfl rfl rfl rfl rfl ⟨_, ?_, k + 1, rfl, ?_, rfl, (by first | (rw [hkN_yes (by omega) (by omega)]; rfl) | (rw [hkN_no (by omega) (by omega)]; rfl) | (exfalso; omega))⟩
    ·omega
    ·omega
   ·skip
    refine vo_assert_no rfl rfl Try.underlying107 inf152 (by kernel_rfl) (fun w => by kernel_rfl) ?_
    refine vo_stM ?_
    refine vo_move rfl ?_
    refine vo_stM ?_
    refine vo_extract rfl rfl rfl ?_
    refine vo_extract rfl rfl rfl ?_
    refine vo_assign_pv rfl rfl ?_
    refine vo_assign_pv rfl rfl ?_
    refine vo_nil ?_
    refine hK12 _ ?_
    refine vc_seq fun K18 hK18 => ?_
    refine vc_region ?_
    refine vo_move_pv rfl rfl ?_
    refine vo_nil ?_
    refine hK18 _ ?_
    refine vc_cond_f rfl ?_
    refine vc_skip ?_
    refine hK10 _ ?_
    refine vc_region ?_
    refine vo_binI rfl rfl rfl rfl sd ?_
    refine vo_move_pv rfl rfl ?_
    refine vo_nil ?_
    change againE _ _ _ _ _ _ _ _ _ _
    refine againE_mk rfl rfl rfl rfl rfl rfl ⟨_, ?_, k + 1, rfl, ?_, rfl, (by first | (rw [hkN_yes (by omega) (by omega)]; rfl) | (rw [hkN_no (by omega) (by omega)]; rfl) | (exfalso; omega))⟩
    ·omega
    ·omega
  ·try simp only [zq0, zq1, zq2, zq3, zq4, zq5, zq6, zq7, zq8, zq9, zqa, zqb, zqc, zqd, zqe, zqf] at hc2
   refine vc_exit ?_
   refine hK6 _ ?_
   refine vc_seq fun K19 hK19 => ?_
   refine vc_seq fun K20 hK20 => ?_
   refine vc_region ?_
   refine vo_load_varS rfl rfl rfl Try.underlying69 rfl inf69 sz69 rfl rfl ?_
   refine vo_move_pv rfl rfl ?_
   refine vo_move_pv rfl rfl ?_
   refine vo_call [] Try.func92 rfl rfl rfl rfl rfl rfl rfl (ownersOwn_sat hw0) ?_
   rintro _ _ ⟨nlo, rfl, rfl⟩
   refine ⟨Nat.le_of_ble_eq_true rfl, ⟨rfl, rfl, rfl, rfl⟩, .inl rfl, ?_⟩
   refine vo_stM ?_
   refine vo_len_ref rfl rfl rfl Try.underlying28 ?_
   refine vo_move_pv rfl rfl ?_
   refine vo_nil ?_
   refine hK20 _ ?_
   refine vc_block ?_
   refine vc_stM ?_
   refine vc_loopE [1, 8, 46, 47] [48] [] _ _ (fun mz vs rs => ∃ (j : Nat), mz = (ownM w c hook).length - j ∧ (j ≤ (ownM w c hook).length) ∧ (hkO c (ownM w c hook) = hkO c ((ownM w c hook).drop j)) ∧ vs = [i64 j] ∧ rs = []) ((ownM w c hook).length) rfl rfl (le_len hC rfl) ⟨rfl, rfl, rfl⟩ rfl ⟨0, rfl, (Nat.zero_le _), rfl, rfl, rfl⟩ ?_
   rintro mz vs rs - - ⟨j, rfl, hj, hf, rfl, rfl⟩
   refine vc_stM ?_
   refine vc_seq fun K21 hK21 => ?_
   refine vc_region ?_
   refine vo_binI rfl rfl rfl rfl trivial ?_
   refine vo_nil ?_
   refine hK21 _ ?_
   refine vc_seq fun K22 hK22 => ?_
   refine vc_cond rfl (fun hc3 => ?_) (fun hc3 => ?_)
   ·try simp only [zq0, zq1, zq2, zq3, zq4, zq5, zq6, zq7, zq8, zq9, zqa, zqb, zqc, zqd, zqe, zqf] at hc3
    refine vc_skip ?_
    refine hK22 _ ?_
    refine vc_seq fun K23 hK23 => ?_
    refine vc_block ?_
    refine vc_seq fun K24 hK24 => ?_
    refine vc_region ?_
    refine vo_index_ref rfl rfl rfl rfl E28.und inf3 sz3 sd sd ?_
    try simp only [Int.toNat_natCast]
    refine vo_load_own rfl rfl rfl Try.underlying3 rfl sd (getD_ints _ _) rfl ?_
    try simp only [Int.toNat_natCast]
    refine vo_assign_pv rfl rfl ?_
    refine vo_nil ?_
    refine hK24 _ ?_
    refine vc_seq fun K25 hK25 => ?_
    refine vc_region ?_
    refine vo_move_pv rfl rfl ?_
    refine vo_move_pv rfl rfl ?_
    refine vo_binI rfl rfl rfl rfl trivial ?_
    refine vo_nil ?_
    refine hK25 _ ?_
    refine vc_cond rfl (fun hc4 => ?_) (fun hc4 => ?_)
    ·try simp only [zq0, zq1, zq2, zq3, zq4, zq5, zq6, zq7, zq8, zq9, zqa, zqb, zqc, zqd, zqe, zqf] at hc4
     refine vc_seq fun K26 hK26 => ?_
     refine vc_region ?_
     refine vo_move_ref rfl rfl ?_
     refine vo_move_pv rfl rfl ?_
     refine vo_assign_ref rfl rfl ?_
     refine vo_assign_pv rfl rfl ?_
     refine vo_nil ?_
     refine hK26 _ ?_
     refine vc_ret ?_
     change retQ _ _ _ _ _
     refine retQ_sel [2] (srows := [_]) (.inr rfl) hC rfl rfl rfl rfl rfl rfl rfl ?_
     have e1 : hookN w c = hkN ((w.attrs.getD c.toNat []).take k) := by unfold hookN; rw [if_pos (by assumption), take_all (by omega)]
     have e2 : hookO w c hook = (ownM w c hook).getD j 0 := by unfold hookO; rw [if_pos (by assumption), hf, hkO_drop (by omega), if_neg (by assumption)]
     rw [e1, e2]; exact ⟨_, rfl, rfl⟩
    ·try simp only [zq0, zq1, zq2, zq3, zq4, zq5, zq6, zq7, zq8, zq9, zqa, zqb, zqc, zqd, zqe, zqf] at hc4
     refine vc_skip ?_
     refine hK23 _ ?_
     refine vc_region ?_
     refine vo_binI rfl rfl rfl rfl sd ?_
     refine vo_move_pv rfl rfl ?_
     refine vo_nil ?_
     change againE _ _ _ _ _ _ _ _ _ _
     refine againE_mk rfl rfl rfl rfl rfl rfl ⟨_, ?_, j + 1, rfl, ?_, ?_, rfl, rfl⟩
     ·omega
     ·omega
     ·rw [hf, hkO_drop (by omega), if_pos (by assumption)]
   ·try simp only [zq0, zq1, zq2, zq3, zq4, zq5, zq6, zq7, zq8, zq9, zqa, zqb, zqc, zqd, zqe, zqf] at hc3
    refine vc_exit ?_
    refine hK19 _ ?_
    refine vc_seq fun K27 hK27 => ?_
    refine vc_region ?_
    refine vo_move_ref rfl rfl ?_
    refine vo_assign_ref rfl rfl ?_
    refine vo_assign_pv rfl rfl ?_
    refine vo_nil ?_
    refine hK27 _ ?_
    refine vc_ret ?_
    change retQ _ _ _ _ _
    refine retQ_sel [2] (srows := [_]) (.inr rfl) hC rfl rfl rfl rfl rfl rfl rfl ?_
    have e1 : hookN w c = hkN ((w.attrs.getD c.toNat []).take k) := by unfold hookN; rw [if_pos (by assumption), take_all (by omega)]
    have e2 : hookO w c hook = -1 := by unfold hookO; rw [if_pos (by assumption), hf, List.drop_eq_nil_of_le (by omega)]; rfl
    rw [e1, e2]; exact ⟨_, rfl, rfl⟩


theorem specHooksOf_sat {w : WorldM} {c : Int} {hook : Int}  (hw : SW w) : SatAt Try.prog 50 [.pv false (worldP w), i64 c, i64 hook] [] (fun res rows => ∃ nl, res = [.pv true (.sl nl 1 ((hookN w c).map intP)), i64 (hookO w c hook)] ∧ rows = []) := by
  have hw0 := hw
  obtain ⟨⟨b1, b2⟩, ⟨a1, a2⟩, o1, o2⟩ := hw
  refine sat_entry_G (rs := [(6, none), (7, none)]) Try.func50 rfl rfl (Nat.le_of_ble_eq_true rfl) (Nat.le_of_ble_eq_true rfl) (resTs2 trivial trivial) fun C hC => ?_
  rw [Try.ntmps50]
  replace hC : C.nb = 0 := hC
  refine vc_seq fun K1 hK1 => ?_
  refine vc_region ?_
  refine vo_box rfl rfl ?_
  refine vo_stM ?_
  refine vo_assign_pv rfl rfl ?_
  refine vo_own_nil 6 E28 rfl ?_
  refine vo_assign_pv rfl rfl ?_
  refine vo_nil ?_
  refine hK1 _ ?_
  refine vc_seq fun K2 hK2 => ?_
  refine vc_seq fun K3 hK3 => ?_
  refine vc_region ?_
  refine vo_load_varS rfl rfl rfl Try.underlying69 rfl inf69 sz69 rfl rfl ?_
  refine vo_call0 Try.func86 rfl rfl rfl rfl (specValidWorld0_sat hw0) ?_
  rintro _ _ ⟨rfl, rfl⟩
  refine ⟨rfl, rfl, .inl rfl, ?_⟩
  refine vo_stM ?_
  refine vo_not rfl rfl ?_
  refine vo_move_pv rfl rfl ?_
  refine vo_split 14 rfl (fun hg1 => ?_) (fun hg1 => ?_)
  · try simp only [zq0, zq1, zq2, zq3, zq4, zq5, zq6, zq7, zq8, zq9, zqa, zqb, zqc, zqd, zqe, zqf] at hg1
    refine vo_guard_off rfl rfl rfl rfl rfl ?_
    refine vo_guard_off rfl rfl rfl rfl rfl ?_
    refine vo_guard_off rfl rfl rfl rfl rfl ?_
    refine vo_guard_off rfl rfl rfl rfl rfl ?_
    refine vo_guard_off rfl rfl rfl rfl rfl ?_
    refine vo_guard_off rfl rfl rfl rfl rfl ?_
    refine vo_guard_off rfl rfl rfl rfl rfl ?_
    refine vo_pick_t rfl rfl ?_
    refine vo_nil ?_
    refine hK3 _ ?_
    refine vc_cond_t rfl ?_
    refine vc_seq fun K4 hK4 => ?_
    refine vc_region ?_
    refine vo_assign_pv rfl rfl ?_
    refine vo_own_nil 6 E28 rfl ?_
    refine vo_assign_pv rfl rfl ?_
    refine vo_nil ?_
    refine hK4 _ ?_
    refine vc_expose 2 (by omega) rfl ?_
    refine vc_stM ?_
    refine vc_ret ?_
    change retQ _ _ _ _ _
    refine retQ_sel [] (srows := []) (.inr rfl) hC rfl rfl rfl rfl rfl rfl rfl ?_
    have e0 : ¬ hasC w c := (by unfold hasC; first | assumption | (simp_all; done) | (intro h; omega))
    have e1 : hookN w c = [] := by unfold hookN; rw [if_neg e0]
    have e2 : hookO w c hook = -1 := by unfold hookO; rw [if_neg e0]
    rw [e1, e2]; exact ⟨_, rfl, rfl⟩
  · try simp only [zq0, zq1, zq2, zq3, zq4, zq5, zq6, zq7, zq8, zq9, zqa, zqb, zqc, zqd, zqe, zqf] at hg1
    refine vo_guard_on rfl rfl rfl ?_
    refine vo_move_pv rfl rfl ?_
    refine vo_guard_on rfl rfl rfl ?_
    refine vo_fieldAddr_ptr rfl rfl Try.underlying69 rfl inf23 (by rw [sz23]; decide) ?_
    try simp only [Nat.zero_add]
    refine vo_guard_on rfl rfl rfl ?_
    refine vo_load_var rfl rfl rfl Try.underlying23 rfl rfl ?_
    refine vo_guard_on rfl rfl rfl ?_
    refine vo_len_pv rfl rfl Try.underlying23 ?_
    refine vo_guard_on rfl rfl rfl ?_
    refine vo_binI rfl rfl rfl rfl sd ?_
    refine vo_guard_on rfl rfl rfl ?_
    refine vo_call0 Try.func64 rfl rfl rfl rfl inRange_sat ?_
    rintro _ _ ⟨rfl, rfl⟩
    refine ⟨rfl, rfl, .inl rfl, ?_⟩
    refine vo_stM ?_
    refine vo_guard_on rfl rfl rfl ?_
    refine vo_not rfl rfl ?_
    refine vo_pick_f rfl rfl ?_
    refine vo_nil ?_
    refine hK3 _ ?_
    refine vc_cond rfl (fun hc2 => ?_) (fun hc2 => ?_)
    · try simp only [zq0, zq1, zq2, zq3, zq4, zq5, zq6, zq7, zq8, zq9, zqa, zqb, zqc, zqd, zqe, zqf] at hc2
      refine vc_seq fun K5 hK5 => ?_
      refine vc_region ?_
      refine vo_assign_pv rfl rfl ?_
      refine vo_own_nil 6 E28 rfl ?_
      refine vo_assign_pv rfl rfl ?_
      refine vo_nil ?_
      refine hK5 _ ?_
      refine vc_expose 2 (by omega) rfl ?_
      refine vc_stM ?_
      refine vc_ret ?_
      change retQ _ _ _ _ _
      refine retQ_sel [] (srows := []) (.inr rfl) hC rfl rfl rfl rfl rfl rfl rfl ?_
      have e0 : ¬ hasC w c := (by unfold hasC; first | assumption | (simp_all; done) | (intro h; omega))
      have e1 : hookN w c = [] := by unfold hookN; rw [if_neg e0]
      have e2 : hookO w c hook = -1 := by unfold hookO; rw [if_neg e0]
      rw [e1, e2]; exact ⟨_, rfl, rfl⟩
    · try simp only [zq0, zq1, zq2, zq3, zq4, zq5, zq6, zq7, zq8, zq9, zqa, zqb, zqc, zqd, zqe, zqf] at hc2
      have hcv : hasC w c := ⟨by assumption, by omega, by omega⟩
      have hca := hcv.1.2.1
      have hak := getD_all (p := fun l : List AttrM => l.length ≤ 2000000) a2 [] (by simp) c.toNat
      have hol := ownM_len (w := w) (c := c) (name := hook)
      have hon := hkO_nodup (c := c) (own_nodup (name := hook) hcv)
      rw [ownM_yes hcv] at hol hon
      refine vc_skip ?_
      refine hK2 _ ?_
      refine vc_seq fun K6 hK6 => ?_
      refine vc_region ?_
      refine vo_buildSlice E28 rfl rfl rfl rfl rfl ?_
      refine vo_stM ?_
      refine vo_assign_ref rfl rfl ?_
      refine vo_nil ?_
      refine hK6 _ ?_
      refine vc_seq fun K7 hK7 => ?_
      refine vc_seq fun K8 hK8 => ?_
      refine vc_region ?_
      refine vo_assign_pv rfl rfl ?_
      refine vo_nil ?_
      refine hK8 _ ?_
      refine vc_block ?_
      refine vc_stM ?_
      refine vc_loopE [1, 2, 3] [8, 9] [2] _ _ (fun mz vs rs => ∃ (k : Nat), mz = (w.attrs.getD c.toNat []).length - k ∧ (k ≤ (w.attrs.getD c.toNat []).length) ∧ vs = [.ref 2, i64 k] ∧ rs = [Row.own 3 1 (some false) true ((hkN ((w.attrs.getD c.toNat []).take k)).map intP)]) ((w.attrs.getD c.toNat []).length) rfl rfl (le_len hC rfl) ⟨rfl, rfl, rfl⟩ rfl ⟨0, rfl, Nat.zero_le _, rfl, rfl⟩ ?_
      rintro mz vs rs - - ⟨k, rfl, hk, rfl, rfl⟩
      refine vc_stM ?_
      have hkl := hkN_len ((w.attrs.getD c.toNat []).take k)
      rw [List.length_take] at hkl
      refine vc_seq fun K9 hK9 => ?_
      refine vc_seq fun K10 hK10 => ?_
      refine vc_region ?_
      refine vo_move_pv rfl rfl ?_
      refine vo_fieldAddr_ptr rfl rfl Try.underlying69 rfl inf66 (by rw [sz66]; decide) ?_
      try simp only [Nat.zero_add]
      refine vo_load_var rfl rfl rfl Try.underlying66 rfl rfl ?_
      refine vo_move_pv rfl rfl ?_
      refine vo_index_pv (.sl none 3 []) rfl rfl rfl E66.und inf99 sz99 sd sd ?_
      simp only [Int.toNat_natCast, Int.toNat_zero, getD_ints, getD_intss, getD_bools, getD_bytes, PV.cells, getD_ops, getD_pairs, getD_insts, getD_attrs, getD_attrss, getD_objs, getD_ordP]
      refine vo_load_adr rfl rfl Try.underlying99 rfl ?_
      refine vo_len_pv rfl rfl Try.underlying99 ?_
      refine vo_binI rfl rfl rfl rfl trivial ?_
      refine vo_nil ?_
      refine hK10 _ ?_
      refine vc_cond rfl (fun hc3 => ?_) (fun hc3 => ?_)
      · try simp only [zq0, zq1, zq2, zq3, zq4, zq5, zq6, zq7, zq8, zq9, zqa, zqb, zqc, zqd, zqe, zqf] at hc3
        refine vc_skip ?_
        refine hK9 _ ?_
        refine vc_seq fun K11 hK11 => ?_
        refine vc_block ?_
        refine vc_seq fun K12 hK12 => ?_
        refine vc_region ?_
        refine vo_fieldAddr_ptr rfl rfl Try.underlying69 rfl inf66 (by rw [sz66]; decide) ?_
        try simp only [Nat.zero_add]
        refine vo_load_var rfl rfl rfl Try.underlying66 rfl rfl ?_
        refine vo_move_pv rfl rfl ?_
        refine vo_index_pv (.sl none 3 []) rfl rfl rfl E66.und inf99 sz99 sd sd ?_
        simp only [Int.toNat_natCast, Int.toNat_zero, getD_ints, getD_intss, getD_bools, getD_bytes, PV.cells, getD_ops, getD_pairs, getD_insts, getD_attrs, getD_attrss, getD_objs, getD_ordP]
        refine vo_load_adr rfl rfl Try.underlying99 rfl ?_
        refine vo_move_pv rfl rfl ?_
        refine vo_index_pv (.agg [(.int .i64 0), (.int .i64 0), (.int .i64 0)]) rfl rfl rfl E99.und inf101 sz101 sd sd ?_
        simp only [Int.toNat_natCast, Int.toNat_zero, getD_ints, getD_intss, getD_bools, getD_bytes, PV.cells, getD_ops, getD_pairs, getD_insts, getD_attrs, getD_attrss, getD_objs, getD_ordP]
        refine vo_fieldAddr_adr rfl rfl Try.underlying101 rfl inf3 (by rw [sz3]; decide) ?_
        refine vo_load_adr rfl rfl Try.underlying3 rfl ?_
        refine vo_binI rfl rfl rfl rfl trivial ?_
        refine vo_move_pv rfl rfl ?_
        refine vo_split 44 rfl (fun hg4 => ?_) (fun hg4 => ?_)
        · try simp only [zq0, zq1, zq2, zq3, zq4, zq5, zq6, zq7, zq8, zq9, zqa, zqb, zqc, zqd, zqe, zqf] at hg4
          refine vo_guard_off rfl rfl rfl rfl rfl ?_
          refine vo_guard_off rfl rfl rfl rfl rfl ?_
          refine vo_guard_off rfl rfl rfl rfl rfl ?_
          refine vo_guard_off rfl rfl rfl rfl rfl ?_
          refine vo_guard_off rfl rfl rfl rfl rfl ?_
          refine vo_guard_off rfl rfl rfl rfl rfl ?_
          refine vo_guard_off rfl rfl rfl rfl rfl ?_
          refine vo_guard_off rfl rfl rfl rfl rfl ?_
          refine vo_guard_off rfl rfl rfl rfl rfl ?_
          refine vo_guard_off rfl rfl rfl rfl rfl ?_
          refine vo_pick_t rfl rfl ?_
          refine vo_nil ?_
          refine hK12 _ ?_
          refine vc_cond_t rfl ?_
          refine vc_region ?_
          refine vo_move_ref rfl rfl ?_
          refine vo_fieldAddr_ptr rfl rfl Try.underlying69 rfl inf66 (by rw [sz66]; decide) ?_
          try simp only [Nat.zero_add]
          refine vo_load_var rfl rfl rfl Try.underlying66 rfl rfl ?_
          refine vo_move_pv rfl rfl ?_
          refine vo_index_pv (.sl none 3 []) rfl rfl rfl E66.und inf99 sz99 sd sd ?_
          simp only [Int.toNat_natCast, Int.toNat_zero, getD_ints, getD_intss, getD_bools, getD_bytes, PV.cells, getD_ops, getD_pairs, getD_insts, getD_attrs, getD_attrss, getD_objs, getD_ordP]
          refine vo_load_adr rfl rfl Try.underlying99 rfl ?_
          refine vo_move_pv rfl rfl ?_
          refine vo_index_pv (.agg [(.int .i64 0), (.int .i64 0), (.int .i64 0)]) rfl rfl rfl E99.und inf101 sz101 sd sd ?_
          simp only [Int.toNat_natCast, Int.toNat_zero, getD_ints, getD_intss, getD_bools, getD_bytes, PV.cells, getD_ops, getD_pairs, getD_insts, getD_attrs, getD_attrss, getD_objs, getD_ordP]
          refine vo_fieldAddr_adr rfl rfl Try.underlying101 rfl inf3 (by rw [sz3]; decide) ?_
          refine vo_load_adr rfl rfl Try.underlying3 rfl ?_
          refine vo_buildSlice E28 rfl rfl rfl rfl rfl ?_
          refine vo_stM ?_
          refine vo_append E28 rfl (by omega) rfl rfl rfl sd sd ?_
          refine vo_stM ?_
          try simp only [app_ints, app_intss, app_bools]
          refine vo_assign_ref rfl rfl ?_
          refine vo_nil ?_
          refine hK11 _ ?_
          refine vc_region ?_
          refine vo_move_pv rfl rfl ?_
          refine vo_binI rfl rfl rfl rfl sd ?_
          refine vo_assign_pv rfl rfl ?_
          refine vo_nil ?_
          change againE _ _ _ _ _ _ _ _ _ _
          refine againE_mk rfl rfl rfl rfl rfl rfl ⟨_, ?_, k + 1, rfl, ?_, rfl, (by first | (rw [hkN_yes (by omega) (by omega)]; rfl) | (rw [hkN_no (by omega) (by omega)]; rfl) | (exfalso; omega))⟩
          · omega
          · omega
        · try simp only [zq0, zq1, zq2, zq3, zq4, zq5, zq6, zq7, zq8, zq9, zqa, zqb, zqc, zqd, zqe, zqf] at hg4
          refine vo_guard_on rfl rfl rfl ?_
          refine vo_fieldAddr_ptr rfl rfl Try.underlying69 rfl inf66 (by rw [sz66]; decide) ?_
          try simp only [Nat.zero_add]
          refine vo_guard_on rfl rfl rfl ?_
          refine vo_load_var rfl rfl rfl Try.underlying66 rfl rfl ?_
          refine vo_guard_on rfl rfl rfl ?_
          refine vo_move_pv rfl rfl ?_
          refine vo_guard_on rfl rfl rfl ?_
          refine vo_index_pv (.sl none 3 []) rfl rfl rfl E66.und inf99 sz99 sd sd ?_
          simp only [Int.toNat_natCast, Int.toNat_zero, getD_ints, getD_intss, getD_bools, getD_bytes, PV.cells, getD_ops, getD_pairs, getD_insts, getD_attrs, getD_attrss, getD_objs, getD_ordP]
          refine vo_guard_on rfl rfl rfl ?_
          refine vo_load_adr rfl rfl Try.underlying99 rfl ?_
          refine vo_guard_on rfl rfl rfl ?_
          refine vo_move_pv rfl rfl ?_
          refine vo_guard_on rfl rfl rfl ?_
          refine vo_index_pv (.agg [(.int .i64 0), (.int .i64 0), (.int .i64 0)]) rfl rfl rfl E99.und inf101 sz101 sd sd ?_
          simp only [Int.toNat_natCast, Int.toNat_zero, getD_ints, getD_intss, getD_bools, getD_bytes, PV.cells, getD_ops, getD_pairs, getD_insts, getD_attrs, getD_attrss, getD_objs, getD_ordP]
          refine vo_guard_on rfl rfl rfl ?_
          refine vo_fieldAddr_adr rfl rfl Try.underlying101 rfl inf3 (by rw [sz3]; decide) ?_
          refine vo_guard_on rfl rfl rfl ?_
          refine vo_load_adr rfl rfl Try.underlying3 rfl ?_
          refine vo_guard_on rfl rfl rfl ?_
          refine vo_binI rfl rfl rfl rfl trivial ?_
          refine vo_pick_f rfl rfl ?_
          refine vo_nil ?_
          refine hK12 _ ?_
          refine vc_cond rfl (fun hc5 => ?_) (fun hc5 => ?_)
          · try simp only [zq0, zq1, zq2, zq3, zq4, zq5, zq6, zq7, zq8, zq9, zqa, zqb, zqc, zqd, zqe, zqf] at hc5
            refine vc_region ?_
            refine vo_move_ref rfl rfl ?_
            refine vo_fieldAddr_ptr rfl rfl Try.underlying69 rfl inf66 (by rw [sz66]; decide) ?_
            try simp only [Nat.zero_add]
            refine vo_load_var rfl rfl rfl Try.underlying66 rfl rfl ?_
            refine vo_move_pv rfl rfl ?_
            refine vo_index_pv (.sl none 3 []) rfl rfl rfl E66.und inf99 sz99 sd sd ?_
            simp only [Int.toNat_natCast, Int.toNat_zero, getD_ints, getD_intss, getD_bools, getD_bytes, PV.cells, getD_ops, getD_pairs, getD_insts, getD_attrs, getD_attrss, getD_objs, getD_ordP]
            refine vo_load_adr rfl rfl Try.underlying99 rfl ?_
            refine vo_move_pv rfl rfl ?_
            refine vo_index_pv (.agg [(.int .i64 0), (.int .i64 0), (.int .i64 0)]) rfl rfl rfl E99.und inf101 sz101 sd sd ?_
            simp only [Int.toNat_natCast, Int.toNat_zero, getD_ints, getD_intss, getD_bools, getD_bytes, PV.cells, getD_ops, getD_pairs, getD_insts, getD_attrs, getD_attrss, getD_objs, getD_ordP]
            refine vo_fieldAddr_adr rfl rfl Try.underlying101 rfl inf3 (by rw [sz3]; decide) ?_
            refine vo_load_adr rfl rfl Try.underlying3 rfl ?_
            refine vo_buildSlice E28 rfl rfl rfl rfl rfl ?_
            refine vo_stM ?_
            refine vo_append E28 rfl (by omega) rfl rfl rfl sd sd ?_
            refine vo_stM ?_
            try simp only [app_ints, app_intss, app_bools]
            refine vo_assign_ref rfl rfl ?_
            refine vo_nil ?_
            refine hK11 _ ?_
            refine vc_region ?_
            refine vo_move_pv rfl rfl ?_
            refine vo_binI rfl rfl rfl rfl sd ?_
            refine vo_assign_pv rfl rfl ?_
            refine vo_nil ?_
            change againE _ _ _ _ _ _ _ _ _ _
            refine againE_mk rfl rfl rfl rfl rfl rfl ⟨_, ?_, k + 1, rfl, ?_, rfl, (by first | (rw [hkN_yes (by omega) (by omega)]; rfl) | (rw [hkN_no (by omega) (by omega)]; rfl) | (exfalso; omega))⟩
            · omega
            · omega
          · try simp only [zq0, zq1, zq2, zq3, zq4, zq5, zq6, zq7, zq8, zq9, zqa, zqb, zqc, zqd, zqe, zqf] at hc5
            refine vc_skip ?_
            refine hK11 _ ?_
            refine vc_region ?_
            refine vo_move_pv rfl rfl ?_
            refine vo_binI rfl rfl rfl rfl sd ?_
            refine vo_assign_pv rfl rfl ?_
            refine vo_nil ?_
            change againE _ _ _ _ _ _ _ _ _ _
            refine againE_mk rfl rfl rfl rfl rfl rfl ⟨_, ?_, k + 1, rfl, ?_, rfl, (by first | (rw [hkN_yes (by omega) (by omega)]; rfl) | (rw [hkN_no (by omega) (by omega)]; rfl) | (exfalso; omega))⟩
            · omega
            · omega
      · try simp only [zq0, zq1, zq2, zq3, zq4, zq5, zq6, zq7, zq8, zq9, zqa, zqb, zqc, zqd, zqe, zqf] at hc3
        refine vc_exit ?_
        refine hK7 _ ?_
        refine vc_seq fun K13 hK13 => ?_
        refine vc_region ?_
        refine vo_load_varS rfl rfl rfl Try.underlying69 rfl inf69 sz69 rfl rfl ?_
        refine vo_move_pv rfl rfl ?_
        refine vo_move_pv rfl rfl ?_
        refine vo_call [] Try.func87 rfl rfl rfl rfl rfl rfl rfl (owners_sat hw0 hcv.1 hcv.2.1 hcv.2.2) ?_
        rintro _ _ ⟨rfl, rfl⟩
        refine ⟨Nat.le_of_ble_eq_true rfl, ⟨rfl, rfl, rfl, rfl⟩, .inl rfl, ?_⟩
        refine vo_stM ?_
        refine vo_expose 3 (by omega) rfl ?_
        refine vo_stM ?_
        refine vo_weaken 71 rfl ?_
        refine vo_stM ?_
        refine vo_assign_pv rfl rfl ?_
        refine vo_nil ?_
        refine hK13 _ ?_
        refine vc_seq fun K14 hK14 => ?_
        refine vc_seq fun K15 hK15 => ?_
        refine vc_region ?_
        refine vo_move_pv rfl rfl ?_
        refine vo_len_pv rfl rfl Try.underlying28 ?_
        refine vo_binI rfl rfl rfl rfl trivial ?_
        refine vo_move_pv rfl rfl ?_
        refine vo_split 75 rfl (fun hg6 => ?_) (fun hg6 => ?_)
        · try simp only [zq0, zq1, zq2, zq3, zq4, zq5, zq6, zq7, zq8, zq9, zqa, zqb, zqc, zqd, zqe, zqf] at hg6
          refine vo_guard_on rfl rfl rfl ?_
          refine vo_move_pv rfl rfl ?_
          refine vo_guard_on rfl rfl rfl ?_
          refine vo_index_pv (.int .i64 0) rfl rfl rfl E28.und inf3 sz3 sd sd ?_
          simp only [Int.toNat_natCast, Int.toNat_zero, getD_ints, getD_intss, getD_bools, getD_bytes, PV.cells, getD_ops, getD_pairs, getD_insts, getD_attrs, getD_attrss, getD_objs, getD_ordP]
          refine vo_guard_on rfl rfl rfl ?_
          refine vo_load_adr rfl rfl Try.underlying3 rfl ?_
          refine vo_guard_on rfl rfl rfl ?_
          refine vo_move_pv rfl rfl ?_
          refine vo_guard_on rfl rfl rfl ?_
          refine vo_binI rfl rfl rfl rfl trivial ?_
          refine vo_pick_t rfl rfl ?_
          refine vo_nil ?_
          refine hK15 _ ?_
          refine vc_cond rfl (fun hc7 => ?_) (fun hc7 => ?_)
          · try simp only [zq0, zq1, zq2, zq3, zq4, zq5, zq6, zq7, zq8, zq9, zqa, zqb, zqc, zqd, zqe, zqf] at hc7
            refine vc_region ?_
            refine vo_move_pv rfl rfl ?_
            refine vo_slice_pv rfl rfl rfl rfl E28.und inf3 sz3 sd sd sd ?_
            simp only [Int.toNat_natCast, Int.toNat_zero, List.drop_zero, Nat.sub_zero, ← List.map_drop, ← List.map_take]
            refine vo_assign_pv rfl rfl ?_
            refine vo_nil ?_
            refine hK14 _ ?_
            refine vc_seq fun K16 hK16 => ?_
            refine vc_seq fun K17 hK17 => ?_
            refine vc_region ?_
            refine vo_move_pv rfl rfl ?_
            refine vo_len_pv rfl rfl Try.underlying28 ?_
            refine vo_binI rfl rfl rfl rfl trivial ?_
            refine vo_nil ?_
            refine hK17 _ ?_
            refine vc_cond rfl (fun hc8 => ?_) (fun hc8 => ?_)
            · try simp only [zq0, zq1, zq2, zq3, zq4, zq5, zq6, zq7, zq8, zq9, zqa, zqb, zqc, zqd, zqe, zqf] at hc8
              refine vc_seq fun K18 hK18 => ?_
              refine vc_region ?_
              refine vo_move_ref rfl rfl ?_
              refine vo_assign_ref rfl rfl ?_
              refine vo_assign_pv rfl rfl ?_
              refine vo_nil ?_
              refine hK18 _ ?_
              refine vc_expose 2 (by omega) rfl ?_
              refine vc_stM ?_
              refine vc_ret ?_
              change retQ _ _ _ _ _
              refine retQ_sel [] (srows := []) (.inr rfl) hC rfl rfl rfl rfl rfl rfl rfl ?_
              have e1 : hookN w c = hkN ((w.attrs.getD c.toNat []).take k) := by unfold hookN; rw [if_pos (by assumption), take_all (by omega)]
              have e2 : hookO w c hook = hkO c (ownrs w.attrs hook (ordM w.bases c.toNat)) := by unfold hookO; rw [if_pos (by assumption), ownM_yes (by assumption)]
              have hml : ((ownrs w.attrs hook (ordM w.bases c.toNat)).map intP).length = (ownrs w.attrs hook (ordM w.bases c.toNat)).length := List.length_map ..
              have hl2 : (List.take ((ownrs w.attrs hook (ordM w.bases c.toNat)).length - Int.toNat 1) ((ownrs w.attrs hook (ordM w.bases c.toNat)).drop (Int.toNat 1))).length = (ownrs w.attrs hook (ordM w.bases c.toNat)).length - 1 := by show (List.take ((ownrs w.attrs hook (ordM w.bases c.toNat)).length - 1) ((ownrs w.attrs hook (ordM w.bases c.toNat)).drop 1)).length = (ownrs w.attrs hook (ordM w.bases c.toNat)).length - 1; rw [List.length_take, List.length_drop]; omega
              have hl3 : 1 < (ownrs w.attrs hook (ordM w.bases c.toNat)).length → (List.take (((ownrs w.attrs hook (ordM w.bases c.toNat)).map intP).length - Int.toNat 1) ((ownrs w.attrs hook (ordM w.bases c.toNat)).drop (Int.toNat 1))).getD 0 0 = (ownrs w.attrs hook (ordM w.bases c.toNat)).getD 1 0 := fun h => by rw [hml]; exact getD_cut1 h
              first
                | (have e3 : hkO c (ownrs w.attrs hook (ordM w.bases c.toNat)) = -1 := by
                     rw [hon]
                     repeat' split
                     all_goals first | rfl | omega
                   rw [e1, e2, e3]; exact ⟨_, rfl, rfl⟩)
                | (have e3 : hkO c (ownrs w.attrs hook (ordM w.bases c.toNat)) = (ownrs w.attrs hook (ordM w.bases c.toNat)).getD 0 0 := by
                     rw [hon]
                     repeat' split
                     all_goals first | rfl | omega
                   rw [e1, e2, e3]; exact ⟨_, rfl, rfl⟩)
                | (have e3 : hkO c (ownrs w.attrs hook (ordM w.bases c.toNat)) = (List.take (((ownrs w.attrs hook (ordM w.bases c.toNat)).map intP).length - Int.toNat 1) ((ownrs w.attrs hook (ordM w.bases c.toNat)).drop (Int.toNat 1))).getD 0 0 := by
                     rw [hon]
                     repeat' split
                     all_goals first | omega | exact (hl3 (by omega)).symm
                   rw [e1, e2, e3]; exact ⟨_, rfl, rfl⟩)
            · try simp only [zq0, zq1, zq2, zq3, zq4, zq5, zq6, zq7, zq8, zq9, zqa, zqb, zqc, zqd, zqe, zqf] at hc8
              refine vc_skip ?_
              refine hK16 _ ?_
              refine vc_seq fun K19 hK19 => ?_
              refine vc_drawLD [] [0, 1, 2, 3, 4, 5] [0, 4, 1, 2, 3, 5] (by kernel_rfl) (by kernel_rfl) (by kernel_rfl) (by kernel_rfl) ?_
              change VL [] _ _ _ 6 _ _ _
              refine vl_light 0 [1, 2, 3] rfl rfl rfl (by kernel_rfl) (by kernel_rfl) (by kernel_rfl) (by kernel_rfl) (by kernel_rfl) (wnt_none rfl) (lt_move_ref rfl) ?_
              refine vl_light 1 [0, 4] rfl rfl rfl (by kernel_rfl) (by kernel_rfl) (by kernel_rfl) (by kernel_rfl) (by kernel_rfl) (wnt_none rfl) (lt_move_pv rfl) ?_
              refine vl_light 2 [0, 1, 4] rfl rfl rfl (by kernel_rfl) (by kernel_rfl) (by kernel_rfl) (by kernel_rfl) (by kernel_rfl) (wnt_none rfl) (lt_index_pv (.int .i64 0) rfl rfl E28.und inf3 sz3 sd sd) ?_
              simp only [Int.toNat_natCast, Int.toNat_zero, getD_ints, getD_intss, getD_bools, getD_bytes, PV.cells, getD_ops, getD_pairs, getD_insts, getD_attrs, getD_attrss, getD_objs, getD_ordP]
              refine vl_light 3 [0, 1, 2, 4] rfl rfl rfl (by kernel_rfl) (by kernel_rfl) (by kernel_rfl) (by kernel_rfl) (by kernel_rfl) (wnt_none rfl) (lt_load_adr rfl Try.underlying3 rfl) ?_
              refine vl_light 4 [0, 1, 2, 3] rfl rfl rfl (by kernel_rfl) (by kernel_rfl) (by kernel_rfl) (by kernel_rfl) (by kernel_rfl) (wnt_none rfl) (lt_assign_ref rfl) ?_
              refine vl_light 5 [0, 1, 2, 3, 4] rfl rfl rfl (by kernel_rfl) (by kernel_rfl) (by kernel_rfl) (by kernel_rfl) (by kernel_rfl) (wnt_none rfl) (lt_assign_pv rfl) ?_
              refine vl_nil (by kernel_rfl) ?_
              refine hK19 _ ?_
              refine vc_expose 2 (by omega) rfl ?_
              refine vc_stM ?_
              refine vc_ret ?_
              change retQ _ _ _ _ _
              refine retQ_sel [] (srows := []) (.inr rfl) hC rfl rfl rfl rfl rfl rfl rfl ?_
              have e1 : hookN w c = hkN ((w.attrs.getD c.toNat []).take k) := by unfold hookN; rw [if_pos (by assumption), take_all (by omega)]
              have e2 : hookO w c hook = hkO c (ownrs w.attrs hook (ordM w.bases c.toNat)) := by unfold hookO; rw [if_pos (by assumption), ownM_yes (by assumption)]
              have hml : ((ownrs w.attrs hook (ordM w.bases c.toNat)).map intP).length = (ownrs w.attrs hook (ordM w.bases c.toNat)).length := List.length_map ..
              have hl2 : (List.take ((ownrs w.attrs hook (ordM w.bases c.toNat)).length - Int.toNat 1) ((ownrs w.attrs hook (ordM w.bases c.toNat)).drop (Int.toNat 1))).length = (ownrs w.attrs hook (ordM w.bases c.toNat)).length - 1 := by show (List.take ((ownrs w.attrs hook (ordM w.bases c.toNat)).length - 1) ((ownrs w.attrs hook (ordM w.bases c.toNat)).drop 1)).length = (ownrs w.attrs hook (ordM w.bases c.toNat)).length - 1; rw [List.length_take, List.length_drop]; omega
              have hl3 : 1 < (ownrs w.attrs hook (ordM w.bases c.toNat)).length → (List.take (((ownrs w.attrs hook (ordM w.bases c.toNat)).map intP).length - Int.toNat 1) ((ownrs w.attrs hook (ordM w.bases c.toNat)).drop (Int.toNat 1))).getD 0 0 = (ownrs w.attrs hook (ordM w.bases c.toNat)).getD 1 0 := fun h => by rw [hml]; exact getD_cut1 h
              first
                | (have e3 : hkO c (ownrs w.attrs hook (ordM w.bases c.toNat)) = -1 := by
                     rw [hon]
                     repeat' split
                     all_goals first | rfl | omega
                   rw [e1, e2, e3]; exact ⟨_, rfl, rfl⟩)
                | (have e3 : hkO c (ownrs w.attrs hook (ordM w.bases c.toNat)) = (ownrs w.attrs hook (ordM w.bases c.toNat)).getD 0 0 := by
                     rw [hon]
                     repeat' split
                     all_goals first | rfl | omega
                   rw [e1, e2, e3]; exact ⟨_, rfl, rfl⟩)
                | (have e3 : hkO c (ownrs w.attrs hook (ordM w.bases c.toNat)) = (List.take (((ownrs w.attrs hook (ordM w.bases c.toNat)).map intP).length - Int.toNat 1) ((ownrs w.attrs hook (ordM w.bases c.toNat)).drop (Int.toNat 1))).getD 0 0 := by
                     rw [hon]
                     repeat' split
                     all_goals first | omega | exact (hl3 (by omega)).symm
                   rw [e1, e2, e3]; exact ⟨_, rfl, rfl⟩)
          · try simp only [zq0, zq1, zq2, zq3, zq4, zq5, zq6, zq7, zq8, zq9, zqa, zqb, zqc, zqd, zqe, zqf] at hc7
            refine vc_skip ?_
            refine hK14 _ ?_
            refine vc_seq fun K20 hK20 => ?_
            refine vc_seq fun K21 hK21 => ?_
            refine vc_region ?_
            refine vo_move_pv rfl rfl ?_
            refine vo_len_pv rfl rfl Try.underlying28 ?_
            refine vo_binI rfl rfl rfl rfl trivial ?_
            refine vo_nil ?_
            refine hK21 _ ?_
            refine vc_cond rfl (fun hc9 => ?_) (fun hc9 => ?_)
            · try simp only [zq0, zq1, zq2, zq3, zq4, zq5, zq6, zq7, zq8, zq9, zqa, zqb, zqc, zqd, zqe, zqf] at hc9
              refine vc_seq fun K22 hK22 => ?_
              refine vc_region ?_
              refine vo_move_ref rfl rfl ?_
              refine vo_assign_ref rfl rfl ?_
              refine vo_assign_pv rfl rfl ?_
              refine vo_nil ?_
              refine hK22 _ ?_
              refine vc_expose 2 (by omega) rfl ?_
              refine vc_stM ?_
              refine vc_ret ?_
              change retQ _ _ _ _ _
              refine retQ_sel [] (srows := []) (.inr rfl) hC rfl rfl rfl rfl rfl rfl rfl ?_
              have e1 : hookN w c = hkN ((w.attrs.getD c.toNat []).take k) := by unfold hookN; rw [if_pos (by assumption), take_all (by omega)]
              have e2 : hookO w c hook = hkO c (ownrs w.attrs hook (ordM w.bases c.toNat)) := by unfold hookO; rw [if_pos (by assumption), ownM_yes (by assumption)]
              have hml : ((ownrs w.attrs hook (ordM w.bases c.toNat)).map intP).length = (ownrs w.attrs hook (ordM w.bases c.toNat)).length := List.length_map ..
              have hl2 : (List.take ((ownrs w.attrs hook (ordM w.bases c.toNat)).length - Int.toNat 1) ((ownrs w.attrs hook (ordM w.bases c.toNat)).drop (Int.toNat 1))).length = (ownrs w.attrs hook (ordM w.bases c.toNat)).length - 1 := by show (List.take ((ownrs w.attrs hook (ordM w.bases c.toNat)).length - 1) ((ownrs w.attrs hook (ordM w.bases c.toNat)).drop 1)).length = (ownrs w.attrs hook (ordM w.bases c.toNat)).length - 1; rw [List.length_take, List.length_drop]; omega
              have hl3 : 1 < (ownrs w.attrs hook (ordM w.bases c.toNat)).length → (List.take (((ownrs w.attrs hook (ordM w.bases c.toNat)).map intP).length - Int.toNat 1) ((ownrs w.attrs hook (ordM w.bases c.toNat)).drop (Int.toNat 1))).getD 0 0 = (ownrs w.attrs hook (ordM w.bases c.toNat)).getD 1 0 := fun h => by rw [hml]; exact getD_cut1 h
              first
                | (have e3 : hkO c (ownrs w.attrs hook (ordM w.bases c.toNat)) = -1 := by
                     rw [hon]
                     repeat' split
                     all_goals first | rfl | omega
                   rw [e1, e2, e3]; exact ⟨_, rfl, rfl⟩)
                | (have e3 : hkO c (ownrs w.attrs hook (ordM w.bases c.toNat)) = (ownrs w.attrs hook (ordM w.bases c.toNat)).getD 0 0 := by
                     rw [hon]
                     repeat' split
                     all_goals first | rfl | omega
                   rw [e1, e2, e3]; exact ⟨_, rfl, rfl⟩)
                | (have e3 : hkO c (ownrs w.attrs hook (ordM w.bases c.toNat)) = (List.take (((ownrs w.attrs hook (ordM w.bases c.toNat)).map intP).length - Int.toNat 1) ((ownrs w.attrs hook (ordM w.bases c.toNat)).drop (Int.toNat 1))).getD 0 0 := by
                     rw [hon]
                     repeat' split
                     all_goals first | omega | exact (hl3 (by omega)).symm
                   rw [e1, e2, e3]; exact ⟨_, rfl, rfl⟩)
            · try simp only [zq0, zq1, zq2, zq3, zq4, zq5, zq6, zq7, zq8, zq9, zqa, zqb, zqc, zqd, zqe, zqf] at hc9
              refine vc_skip ?_
              refine hK20 _ ?_
              refine vc_seq fun K23 hK23 => ?_
              refine vc_drawLD [] [0, 1, 2, 3, 4, 5] [0, 4, 1, 2, 3, 5] (by kernel_rfl) (by kernel_rfl) (by kernel_rfl) (by kernel_rfl) ?_
              change VL [] _ _ _ 6 _ _ _
              refine vl_light 0 [1, 2, 3] rfl rfl rfl (by kernel_rfl) (by kernel_rfl) (by kernel_rfl) (by kernel_rfl) (by kernel_rfl) (wnt_none rfl) (lt_move_ref rfl) ?_
              refine vl_light 1 [0, 4] rfl rfl rfl (by kernel_rfl) (by kernel_rfl) (by kernel_rfl) (by kernel_rfl) (by kernel_rfl) (wnt_none rfl) (lt_move_pv rfl) ?_
              refine vl_light 2 [0, 1, 4] rfl rfl rfl (by kernel_rfl) (by kernel_rfl) (by kernel_rfl) (by kernel_rfl) (by kernel_rfl) (wnt_none rfl) (lt_index_pv (.int .i64 0) rfl rfl E28.und inf3 sz3 sd sd) ?_
              simp only [Int.toNat_natCast, Int.toNat_zero, getD_ints, getD_intss, getD_bools, getD_bytes, PV.cells, getD_ops, getD_pairs, getD_insts, getD_attrs, getD_attrss, getD_objs, getD_ordP]
              refine vl_light 3 [0, 1, 2, 4] rfl rfl rfl (by kernel_rfl) (by kernel_rfl) (by kernel_rfl) (by kernel_rfl) (by kernel_rfl) (wnt_none rfl) (lt_load_adr rfl Try.underlying3 rfl) ?_
              refine vl_light 4 [0, 1, 2, 3] rfl rfl rfl (by kernel_rfl) (by kernel_rfl) (by kernel_rfl) (by kernel_rfl) (by kernel_rfl) (wnt_none rfl) (lt_assign_ref rfl) ?_
              refine vl_light 5 [0, 1, 2, 3, 4] rfl rfl rfl (by kernel_rfl) (by kernel_rfl) (by kernel_rfl) (by kernel_rfl) (by kernel_rfl) (wnt_none rfl) (lt_assign_pv rfl) ?_
              refine vl_nil (by kernel_rfl) ?_
              refine hK23 _ ?_
              refine vc_expose 2 (by omega) rfl ?_
              refine vc_stM ?_
              refine vc_ret ?_
              change retQ _ _ _ _ _
              refine retQ_sel [] (srows := []) (.inr rfl) hC rfl rfl rfl rfl rfl rfl rfl ?_
              have e1 : hookN w c = hkN ((w.attrs.getD c.toNat []).take k) := by unfold hookN; rw [if_pos (by assumption), take_all (by omega)]
              have e2 : hookO w c hook = hkO c (ownrs w.attrs hook (ordM w.bases c.toNat)) := by unfold hookO; rw [if_pos (by assumption), ownM_yes (by assumption)]
              have hml : ((ownrs w.attrs hook (ordM w.bases c.toNat)).map intP).length = (ownrs w.attrs hook (ordM w.bases c.toNat)).length := List.length_map ..
              have hl2 : (List.take ((ownrs w.attrs hook (ordM w.bases c.toNat)).length - Int.toNat 1) ((ownrs w.attrs hook (ordM w.bases c.toNat)).drop (Int.toNat 1))).length = (ownrs w.attrs hook (ordM w.bases c.toNat)).length - 1 := by show (List.take ((ownrs w.attrs hook (ordM w.bases c.toNat)).length - 1) ((ownrs w.attrs hook (ordM w.bases c.toNat)).drop 1)).length = (ownrs w.attrs hook (ordM w.bases c.toNat)).length - 1; rw [List.length_take, List.length_drop]; omega
              have hl3 : 1 < (ownrs w.attrs hook (ordM w.bases c.toNat)).length → (List.take (((ownrs w.attrs hook (ordM w.bases c.toNat)).map intP).length - Int.toNat 1) ((ownrs w.attrs hook (ordM w.bases c.toNat)).drop (Int.toNat 1))).getD 0 0 = (ownrs w.attrs hook (ordM w.bases c.toNat)).getD 1 0 := fun h => by rw [hml]; exact getD_cut1 h
              first
                | (have e3 : hkO c (ownrs w.attrs hook (ordM w.bases c.toNat)) = -1 := by
                     rw [hon]
                     repeat' split
                     all_goals first | rfl | omega
                   rw [e1, e2, e3]; exact ⟨_, rfl, rfl⟩)
                | (have e3 : hkO c (ownrs w.attrs hook (ordM w.bases c.toNat)) = (ownrs w.attrs hook (ordM w.bases c.toNat)).getD 0 0 := by
                     rw [hon]
                     repeat' split
                     all_goals first | rfl | omega
                   rw [e1, e2, e3]; exact ⟨_, rfl, rfl⟩)
                | (have e3 : hkO c (ownrs w.attrs hook (ordM w.bases c.toNat)) = (List.take (((ownrs w.attrs hook (ordM w.bases c.toNat)).map intP).length - Int.toNat 1) ((ownrs w.attrs hook (ordM w.bases c.toNat)).drop (Int.toNat 1))).getD 0 0 := by
                     rw [hon]
                     repeat' split
                     all_goals first | omega | exact (hl3 (by omega)).symm
                   rw [e1, e2, e3]; exact ⟨_, rfl, rfl⟩)
        · try simp only [zq0, zq1, zq2, zq3, zq4, zq5, zq6, zq7, zq8, zq9, zqa, zqb, zqc, zqd, zqe, zqf] at hg6
          refine vo_guard_off rfl rfl rfl rfl rfl ?_
          refine vo_guard_off rfl rfl rfl rfl rfl ?_
          refine vo_guard_off rfl rfl rfl rfl rfl ?_
          refine vo_guard_off rfl rfl rfl rfl rfl ?_
          refine vo_guard_off rfl rfl rfl rfl rfl ?_
          refine vo_pick_f rfl rfl ?_
          refine vo_nil ?_
          refine hK15 _ ?_
          refine vc_cond_f rfl ?_
          refine vc_skip ?_
          refine hK14 _ ?_
          refine vc_seq fun K24 hK24 => ?_
          refine vc_seq fun K25 hK25 => ?_
          refine vc_region ?_
          refine vo_move_pv rfl rfl ?_
          refine vo_len_pv rfl rfl Try.underlying28 ?_
          refine vo_binI rfl rfl rfl rfl trivial ?_
          refine vo_nil ?_
          refine hK25 _ ?_
          refine vc_cond rfl (fun hc10 => ?_) (fun hc10 => ?_)
          · try simp only [zq0, zq1, zq2, zq3, zq4, zq5, zq6, zq7, zq8, zq9, zqa, zqb, zqc, zqd, zqe, zqf] at hc10
            refine vc_seq fun K26 hK26 => ?_
            refine vc_region ?_
            refine vo_move_ref rfl rfl ?_
            refine vo_assign_ref rfl rfl ?_
            refine vo_assign_pv rfl rfl ?_
            refine vo_nil ?_
            refine hK26 _ ?_
            refine vc_expose 2 (by omega) rfl ?_
            refine vc_stM ?_
            refine vc_ret ?_
            change retQ _ _ _ _ _
            refine retQ_sel [] (srows := []) (.inr rfl) hC rfl rfl rfl rfl rfl rfl rfl ?_
            have e1 : hookN w c = hkN ((w.attrs.getD c.toNat []).take k) := by unfold hookN; rw [if_pos (by assumption), take_all (by omega)]
            have e2 : hookO w c hook = hkO c (ownrs w.attrs hook (ordM w.bases c.toNat)) := by unfold hookO; rw [if_pos (by assumption), ownM_yes (by assumption)]
            have hml : ((ownrs w.attrs hook (ordM w.bases c.toNat)).map intP).length = (ownrs w.attrs hook (ordM w.bases c.toNat)).length := List.length_map ..
            have hl2 : (List.take ((ownrs w.attrs hook (ordM w.bases c.toNat)).length - Int.toNat 1) ((ownrs w.attrs hook (ordM w.bases c.toNat)).drop (Int.toNat 1))).length = (ownrs w.attrs hook (ordM w.bases c.toNat)).length - 1 := by show (List.take ((ownrs w.attrs hook (ordM w.bases c.toNat)).length - 1) ((ownrs w.attrs hook (ordM w.bases c.toNat)).drop 1)).length = (ownrs w.attrs hook (ordM w.bases c.toNat)).length - 1; rw [List.length_take, List.length_drop]; omega
            have hl3 : 1 < (ownrs w.attrs hook (ordM w.bases c.toNat)).length → (List.take (((ownrs w.attrs hook (ordM w.bases c.toNat)).map intP).length - Int.toNat 1) ((ownrs w.attrs hook (ordM w.bases c.toNat)).drop (Int.toNat 1))).getD 0 0 = (ownrs w.attrs hook (ordM w.bases c.toNat)).getD 1 0 := fun h => by rw [hml]; exact getD_cut1 h
            first
              | (have e3 : hkO c (ownrs w.attrs hook (ordM w.bases c.toNat)) = -1 := by
                   rw [hon]
                   repeat' split
                   all_goals first | rfl | omega
                 rw [e1, e2, e3]; exact ⟨_, rfl, rfl⟩)
              | (have e3 : hkO c (ownrs w.attrs hook (ordM w.bases c.toNat)) = (ownrs w.attrs hook (ordM w.bases c.toNat)).getD 0 0 := by
                   rw [hon]
                   repeat' split
                   all_goals first | rfl | omega
                 rw [e1, e2, e3]; exact ⟨_, rfl, rfl⟩)
              | (have e3 : hkO c (ownrs w.attrs hook (ordM w.bases c.toNat)) = (List.take (((ownrs w.attrs hook (ordM w.bases c.toNat)).map intP).length - Int.toNat 1) ((ownrs w.attrs hook (ordM w.bases c.toNat)).drop (Int.toNat 1))).getD 0 0 := by
                   rw [hon]
                   repeat' split
                   all_goals first | omega | exact (hl3 (by omega)).symm
                 rw [e1, e2, e3]; exact ⟨_, rfl, rfl⟩)
          · try simp only [zq0, zq1, zq2, zq3, zq4, zq5, zq6, zq7, zq8, zq9, zqa, zqb, zqc, zqd, zqe, zqf] at hc10
            refine vc_skip ?_
            refine hK24 _ ?_
            refine vc_seq fun K27 hK27 => ?_
            refine vc_drawLD [] [0, 1, 2, 3, 4, 5] [0, 4, 1, 2, 3, 5] (by kernel_rfl) (by kernel_rfl) (by kernel_rfl) (by kernel_rfl) ?_
            change VL [] _ _ _ 6 _ _ _
            refine vl_light 0 [1, 2, 3] rfl rfl rfl (by kernel_rfl) (by kernel_rfl) (by kernel_rfl) (by kernel_rfl) (by kernel_rfl) (wnt_none rfl) (lt_move_ref rfl) ?_
            refine vl_light 1 [0, 4] rfl rfl rfl (by kernel_rfl) (by kernel_rfl) (by kernel_rfl) (by kernel_rfl) (by kernel_rfl) (wnt_none rfl) (lt_move_pv rfl) ?_
            refine vl_light 2 [0, 1, 4] rfl rfl rfl (by kernel_rfl) (by kernel_rfl) (by kernel_rfl) (by kernel_rfl) (by kernel_rfl) (wnt_none rfl) (lt_index_pv (.int .i64 0) rfl rfl E28.und inf3 sz3 sd sd) ?_
            simp only [Int.toNat_natCast, Int.toNat_zero, getD_ints, getD_intss, getD_bools, getD_bytes, PV.cells, getD_ops, getD_pairs, getD_insts, getD_attrs, getD_attrss, getD_objs, getD_ordP]
            refine vl_light 3 [0, 1, 2, 4] rfl rfl rfl (by kernel_rfl) (by kernel_rfl) (by kernel_rfl) (by kernel_rfl) (by kernel_rfl) (wnt_none rfl) (lt_load_adr rfl Try.underlying3 rfl) ?_
            refine vl_light 4 [0, 1, 2, 3] rfl rfl rfl (by kernel_rfl) (by kernel_rfl) (by kernel_rfl) (by kernel_rfl) (by kernel_rfl) (wnt_none rfl) (lt_assign_ref rfl) ?_
            refine vl_light 5 [0, 1, 2, 3, 4] rfl rfl rfl (by kernel_rfl) (by kernel_rfl) (by kernel_rfl) (by kernel_rfl) (by kernel_rfl) (wnt_none rfl) (lt_assign_pv rfl) ?_
            refine vl_nil (by kernel_rfl) ?_
            refine hK27 _ ?_
            refine vc_expose 2 (by omega) rfl ?_
            refine vc_stM ?_
            refine vc_ret ?_
            change retQ _ _ _ _ _
            refine retQ_sel [] (srows := []) (.inr rfl) hC rfl rfl rfl rfl rfl rfl rfl ?_
            have e1 : hookN w c = hkN ((w.attrs.getD c.toNat []).take k) := by unfold hookN; rw [if_pos (by assumption), take_all (by omega)]
            have e2 : hookO w c hook = hkO c (ownrs w.attrs hook (ordM w.bases c.toNat)) := by unfold hookO; rw [if_pos (by assumption), ownM_yes (by assumption)]
            have hml : ((ownrs w.attrs hook (ordM w.bases c.toNat)).map intP).length = (ownrs w.attrs hook (ordM w.bases c.toNat)).length := List.length_map ..
            have hl2 : (List.take ((ownrs w.attrs hook (ordM w.bases c.toNat)).length - Int.toNat 1) ((ownrs w.attrs hook (ordM w.bases c.toNat)).drop (Int.toNat 1))).length = (ownrs w.attrs hook (ordM w.bases c.toNat)).length - 1 := by show (List.take ((ownrs w.attrs hook (ordM w.bases c.toNat)).length - 1) ((ownrs w.attrs hook (ordM w.bases c.toNat)).drop 1)).length = (ownrs w.attrs hook (ordM w.bases c.toNat)).length - 1; rw [List.length_take, List.length_drop]; omega
            have hl3 : 1 < (ownrs w.attrs hook (ordM w.bases c.toNat)).length → (List.take (((ownrs w.attrs hook (ordM w.bases c.toNat)).map intP).length - Int.toNat 1) ((ownrs w.attrs hook (ordM w.bases c.toNat)).drop (Int.toNat 1))).getD 0 0 = (ownrs w.attrs hook (ordM w.bases c.toNat)).getD 1 0 := fun h => by rw [hml]; exact getD_cut1 h
            first
              | (have e3 : hkO c (ownrs w.attrs hook (ordM w.bases c.toNat)) = -1 := by
                   rw [hon]
                   repeat' split
                   all_goals first | rfl | omega
                 rw [e1, e2, e3]; exact ⟨_, rfl, rfl⟩)
              | (have e3 : hkO c (ownrs w.attrs hook (ordM w.bases c.toNat)) = (ownrs w.attrs hook (ordM w.bases c.toNat)).getD 0 0 := by
                   rw [hon]
                   repeat' split
                   all_goals first | rfl | omega
                 rw [e1, e2, e3]; exact ⟨_, rfl, rfl⟩)
              | (have e3 : hkO c (ownrs w.attrs hook (ordM w.bases c.toNat)) = (List.take (((ownrs w.attrs hook (ordM w.bases c.toNat)).map intP).length - Int.toNat 1) ((ownrs w.attrs hook (ordM w.bases c.toNat)).drop (Int.toNat 1))).getD 0 0 := by
                   rw [hon]
                   repeat' split
                   all_goals first | omega | exact (hl3 (by omega)).symm
                 rw [e1, e2, e3]; exact ⟨_, rfl, rfl⟩)

end Go.Vl

namespace Go.Vl
set_option linter.unusedVariables false
set_option linter.unusedSimpArgs false
open Go.Proofs
set_option maxHeartbeats 4000000 in
theorem FnExactHooksOf_sat {a : WorldM} {c : Int} {hook : Int}  (ha : GW63 a) : SatAt Try.prog 14 [.pv false (worldP a), i64 c, i64 hook] [] (fun res rows => res = [bo true] ∧ rows = []) := by
 refine sat_entry_G (rs := [(6, none)]) Try.func14 rfl rfl (Nat.le_of_ble_eq_true rfl) (Nat.le_of_ble_eq_true rfl) (resTs1 trivial) fun C hC => ?_
 rw [Try.ntmps14]
 replace hC : C.nb = 0 := hC
 refine vc_seq fun K1 hK1 => ?_
 refine vc_region ?_
 refine vo_box rfl rfl ?_
 refine vo_stM ?_
 refine vo_assign_pv rfl rfl ?_
 refine vo_nil ?_
 refine hK1 _ ?_
 refine vc_seq fun K2 hK2 => ?_
 refine vc_region ?_
 refine vo_assign_pv rfl rfl ?_
 refine vo_nil ?_
 refine hK2 _ ?_
 refine vc_seq fun K3 hK3 => ?_
 refine vc_region ?_
 refine vo_load_varS rfl rfl rfl Try.underlying62 rfl inf62 sz62 rfl rfl ?_
 refine vo_move_pv rfl rfl ?_
 refine vo_call0 Try.func49 rfl rfl rfl rfl (szWorld_sat ha (by omega) (by omega)) ?_
 rintro _ _ ⟨v, hv, rfl, rfl⟩
 refine ⟨rfl, rfl, .inl rfl, ?_⟩
 refine vo_stM ?_
 refine vo_assign_pv rfl rfl ?_
 refine vo_nil ?_
 refine hK3 _ ?_
 refine vc_seq fun K4 hK4 => ?_
 refine vc_seq fun K5 hK5 => ?_
 refine vc_region ?_
 refine vo_move_pv rfl rfl ?_
 refine vo_binI rfl rfl rfl rfl trivial ?_
 refine vo_nil ?_
 refine hK5 _ ?_
 refine vc_cond rfl (fun hc1 => ?_) (fun hc1 => ?_)
 ·try simp only [zq0, zq1, zq2, zq3, zq4, zq5, zq6, zq7, zq8, zq9, zqa, zqb, zqc, zqd, zqe, zqf] at hc1
  refine vc_seq fun K6 hK6 => ?_
  refine vc_region ?_
  refine vo_assign_pv rfl rfl ?_
  refine vo_nil ?_
  refine hK6 _ ?_
  refine vc_ret ?_
  (try clear hK6); (try clear hK5); (try clear hK4); (try clear hK3); (try clear hK2); (try clear hK1)
  change retQ _ _ _ _ _
  refine retQ_sel [] (srows := []) (.inr rfl) hC rfl rfl rfl rfl rfl rfl rfl ?_
  exact ⟨rfl, rfl⟩
 ·try simp only [zq0, zq1, zq2, zq3, zq4, zq5, zq6, zq7, zq8, zq9, zqa, zqb, zqc, zqd, zqe, zqf] at hc1
  rcases hv with hv | hv
  ·omega
  have hs := hv.2.2
  have hs2 := hs
  obtain ⟨⟨b1, b2⟩, ⟨a1, a2⟩, o1, o2⟩ := hs2
  refine vc_skip ?_
  refine hK4 _ ?_
  refine vc_seq fun K7 hK7 => ?_
  refine vc_region ?_
  refine vo_load_varS rfl rfl rfl Try.underlying62 rfl inf62 sz62 rfl rfl ?_
  refine vo_call [] Try.func51 rfl rfl rfl rfl rfl rfl rfl (toWorldT_sat hs) ?_
  rintro _ _ ⟨rfl, rfl⟩
  refine ⟨Nat.le_of_ble_eq_true rfl, ⟨rfl, rfl, rfl, rfl⟩, .inl rfl, ?_⟩
  refine vo_stM ?_
  refine vo_move_pv rfl rfl ?_
  refine vo_move_pv rfl rfl ?_
  refine vo_call [] Try.func50 rfl rfl rfl rfl rfl rfl rfl (specHooksOf_sat hs) ?_
  rintro _ _ ⟨nlp, rfl, rfl⟩
  refine ⟨Nat.le_of_ble_eq_true rfl, ⟨rfl, rfl, rfl, rfl⟩, .inr ⟨rfl, rfl⟩, ?_⟩
  refine vo_stM ?_
  refine vo_move rfl ?_
  refine vo_stM ?_
  refine vo_extract rfl rfl rfl ?_
  refine vo_extract rfl rfl rfl ?_
  refine vo_assign_pv rfl rfl ?_
  refine vo_assign_pv rfl rfl ?_
  refine vo_nil ?_
  refine hK7 _ ?_
  refine vc_seq fun K8 hK8 => ?_
  refine vc_region ?_
  refine vo_load_varS rfl rfl rfl Try.underlying62 rfl inf62 sz62 rfl rfl ?_
  refine vo_call [] Try.func51 rfl rfl rfl rfl rfl rfl rfl (toWorldT_sat hs) ?_
  rintro _ _ ⟨rfl, rfl⟩
  refine ⟨Nat.le_of_ble_eq_true rfl, ⟨rfl, rfl, rfl, rfl⟩, .inl rfl, ?_⟩
  refine vo_stM ?_
  refine vo_alloc Z69 rfl ?_
  refine vo_stM ?_
  refine vo_store_varG rfl rfl rfl rfl inf69 sz69 rfl ?_
  refine vo_stM ?_
  refine vo_nil ?_
  refine hK8 _ ?_
  refine vc_seq fun K9 hK9 => ?_
  refine vc_region ?_
  refine vo_load_varG rfl rfl rfl Try.underlying69 rfl inf69 sz69 rfl ?_
  refine vo_stM ?_
  refine vo_move_pv rfl rfl ?_
  refine vo_move_pv rfl rfl ?_
  refine vo_call [] Try.func52 rfl rfl rfl rfl rfl rfl rfl (hooksOwn_sat hs) ?_
  rintro _ _ ⟨nlg, rfl, rfl⟩
  refine ⟨Nat.le_of_ble_eq_true rfl, ⟨rfl, rfl, rfl, rfl⟩, .inr ⟨rfl, rfl⟩, ?_⟩
  refine vo_stM ?_
  refine vo_move rfl ?_
  refine vo_stM ?_
  refine vo_extract rfl rfl rfl ?_
  refine vo_extract rfl rfl rfl ?_
  refine vo_assign_ref rfl rfl ?_
  refine vo_assign_pv rfl rfl ?_
  refine vo_nil ?_
  refine hK9 _ ?_
  refine vc_seq fun K10 hK10 => ?_
  refine vc_seq fun K11 hK11 => ?_
  refine vc_region ?_
  refine vo_move_ref rfl rfl ?_
  refine vo_move_pv rfl rfl ?_
  refine vo_call0 Try.func30 rfl rfl rfl rfl (eqIntS_sat (a := (hookN a c)) (b := (hookN a c)) (by have := hookN_len (w := a) (c := c) hs; omega) (by have := hookN_len (w := a) (c := c) hs; omega)) ?_
  rintro _ _ ⟨rfl, rfl⟩
  refine ⟨rfl, rfl, .inr rfl, ?_⟩
  refine vo_stM ?_
  refine vo_not rfl rfl ?_
  refine vo_move_pv rfl rfl ?_
  refine vo_split 44 rfl (fun hg2 => ?_) (fun hg2 => ?_)
  ·try simp only [zq0, zq1, zq2, zq3, zq4, zq5, zq6, zq7, zq8, zq9, zqa, zqb, zqc, zqd, zqe, zqf] at hg2
   refine vo_guard_off rfl rfl rfl rfl rfl ?_
   refine vo_guard_off rfl rfl rfl rfl rfl ?_
   refine vo_guard_off rfl rfl rfl rfl rfl ?_
   refine vo_pick_t rfl rfl ?_
   refine vo_nil ?_
   refine hK11 _ ?_
   refine vc_cond_t rfl ?_
   refine vc_seq fun K12 hK12 => ?_
   refine vc_region ?_
   refine vo_assign_pv rfl rfl ?_
   refine vo_nil ?_
   refine hK12 _ ?_
   refine vc_ret ?_
   (try clear hK12); (try clear hK11); (try clear hK10); (try clear hK9); (try clear hK8); (try clear hK7); (try clear hK6); (try clear hK5); (try clear hK4); (try clear hK3); (try clear hK2); (try clear hK1)
   change retQ _ _ _ _ _
   refine retQ_sel [] (srows := []) (.inr rfl) hC rfl rfl rfl rfl rfl rfl rfl ?_
   first | exact ⟨rfl, rfl⟩ | (exfalso; simp_all; done) | (exfalso; omega)
  ·try simp only [zq0, zq1, zq2, zq3, zq4, zq5, zq6, zq7, zq8, zq9, zqa, zqb, zqc, zqd, zqe, zqf] at hg2
   refine vo_guard_on rfl rfl rfl ?_
   refine vo_move_pv rfl rfl ?_
   refine vo_guard_on rfl rfl rfl ?_
   refine vo_move_pv rfl rfl ?_
   refine vo_guard_on rfl rfl rfl ?_
   refine vo_binI rfl rfl rfl rfl trivial ?_
   refine vo_pick_f rfl rfl ?_
   refine vo_nil ?_
   refine hK11 _ ?_
   refine vc_cond rfl (fun hc3 => ?_) (fun hc3 => ?_)
   ·try simp only [zq0, zq1, zq2, zq3, zq4, zq5, zq6, zq7, zq8, zq9, zqa, zqb, zqc, zqd, zqe, zqf] at hc3
    refine vc_seq fun K13 hK13 => ?_
    refine vc_region ?_
    refine vo_assign_pv rfl rfl ?_
    refine vo_nil ?_
    refine hK13 _ ?_
    refine vc_ret ?_
    (try clear hK13); (try clear hK12); (try clear hK11); (try clear hK10); (try clear hK9); (try clear hK8); (try clear hK7); (try clear hK6); (try clear hK5); (try clear hK4); (try clear hK3); (try clear hK2); (try clear hK1)
    change retQ _ _ _ _ _
    refine retQ_sel [] (srows := []) (.inr rfl) hC rfl rfl rfl rfl rfl rfl rfl ?_
    first | exact ⟨rfl, rfl⟩ | (exfalso; simp_all; done) | (exfalso; omega)
   ·try simp only [zq0, zq1, zq2, zq3, zq4, zq5, zq6, zq7, zq8, zq9, zqa, zqb, zqc, zqd, zqe, zqf] at hc3
    refine vc_skip ?_
    refine hK10 _ ?_
    refine vc_seq fun K14 hK14 => ?_
    refine vc_seq fun K15 hK15 => ?_
    refine vc_draw (by kernel_rfl) ?_
    change VD _ _ _ 5 _ _ _
    refine vd_light 0 rfl rfl rfl (by kernel_rfl) (by kernel_rfl) (by kernel_rfl) (wnt_none rfl) (lt_load_varG rfl rfl Try.underlying69 rfl inf69 sz69 rfl) ?_
    refine vd_stM ?_
    refine vd_light 1 rfl rfl rfl (by kernel_rfl) (by kernel_rfl) (by kernel_rfl) (wnt_none rfl) (lt_load_varS rfl rfl Try.underlying62 rfl inf62 sz62 rfl rfl) ?_
    refine vd_callR 2 [] rfl rfl (by kernel_rfl) (wnt_none rfl) Try.func51 rfl rfl rfl rfl (toWorldT_sat hs) rfl rfl rfl ?_
    rintro _ _ ⟨rfl, rfl⟩
    refine ⟨Nat.le_of_ble_eq_true rfl, ⟨rfl, rfl, rfl, rfl⟩, .inl rfl, ?_⟩
    refine vd_stM ?_
    refine vd_callR 3 [] rfl rfl (by kernel_rfl) (wnt_none rfl) Try.func53 rfl rfl rfl rfl (eqWorld_sat hs hs) rfl rfl rfl ?_
    rintro _ _ ⟨rfl, rfl⟩
    refine ⟨Nat.le_of_ble_eq_true rfl, ⟨rfl, rfl, rfl, rfl⟩, .inr ⟨rfl, rfl⟩, ?_⟩
    refine vd_stM ?_
    refine vd_light 4 rfl rfl rfl (by kernel_rfl) (by kernel_rfl) (by kernel_rfl) (wnt_none rfl) (lt_not rfl) ?_
    refine vd_nil (by kernel_rfl) ?_
    refine hK15 _ ?_
    refine vc_cond rfl (fun hc4 => ?_) (fun hc4 => ?_)
    ·try simp only [zq0, zq1, zq2, zq3, zq4, zq5, zq6, zq7, zq8, zq9, zqa, zqb, zqc, zqd, zqe, zqf] at hc4
     refine vc_seq fun K16 hK16 => ?_
     refine vc_region ?_
     refine vo_assign_pv rfl rfl ?_
     refine vo_nil ?_
     refine hK16 _ ?_
     refine vc_ret ?_
     (try clear hK16); (try clear hK15); (try clear hK14); (try clear hK13); (try clear hK12); (try clear hK11); (try clear hK10); (try clear hK9); (try clear hK8); (try clear hK7); (try clear hK6); (try clear hK5); (try clear hK4); (try clear hK3); (try clear hK2); (try clear hK1)
     change retQ _ _ _ _ _
     refine retQ_sel [] (srows := []) (.inr rfl) hC rfl rfl rfl rfl rfl rfl rfl ?_
     first | exact ⟨rfl, rfl⟩ | (exfalso; simp_all; done) | (exfalso; omega)
    ·try simp only [zq0, zq1, zq2, zq3, zq4, zq5, zq6, zq7, zq8, zq9, zqa, zqb, zqc, zqd, zqe, zqf] at hc4
     refine vc_skip ?_
     refine hK14 _ ?_
     refine vc_seq fun K17 hK17 => ?_
     refine vc_region ?_
     refine vo_assign_pv rfl rfl ?_
     refine vo_nil ?_
     refine hK17 _ ?_
     refine vc_seq fun K18 hK18 => ?_
     refine vc_region ?_
     refine vo_load_varG rfl rfl rfl Try.underlying69 rfl inf69 sz69 rfl ?_
     refine vo_stM ?_
     refine vo_move_pv rfl rfl ?_
     refine vo_inline [1, 2, 3, 8, 9, 11, 12] [(4, none)] Try.func54 rfl rfl rfl rfl (Nat.le_of_ble_eq_true rfl) (resTs1 trivial) rfl rfl fun us1 => ?_
     rw [Try.ntmps54]
     refine vc_stM ?_
     refine vc_seq fun K19 hK19 => ?_
     refine vc_region ?_
     refine vo_boxG rfl rfl rfl ?_
     refine vo_stM ?_
     refine vo_assign_pv rfl rfl ?_
     refine vo_nil ?_
     refine hK19 _ ?_
     refine vc_seq fun K20 hK20 => ?_
     refine vc_region ?_
     refine vo_fieldAddr_ptr rfl rfl Try.underlying69 rfl inf23 (by rw [sz23]; decide) ?_
     try simp only [Nat.zero_add]
     refine vo_load_var rfl rfl rfl Try.underlying23 rfl rfl ?_
     refine vo_move_pv rfl rfl ?_
     refine vo_call [4] Try.func70 rfl rfl rfl rfl rfl rfl rfl (markIntSS_sat (L := a.bases) (by omega) b2 (by omega)) ?_
     rintro _ _ ⟨w1, L1, ⟨hw1, hx1⟩, rfl, rfl⟩
     refine ⟨Nat.le_of_ble_eq_true rfl, ⟨rfl, rfl, rfl, rfl⟩, .inl rfl, ?_⟩
     refine vo_stM ?_
     refine vo_assign_pv rfl rfl ?_
     refine vo_nil ?_
     refine hK20 _ ?_
     refine vc_seq fun K21 hK21 => ?_
     refine vc_region ?_
     refine vo_fieldAddr_ptr rfl rfl Try.underlying69 rfl inf66 (by rw [sz66]; decide) ?_
     try simp only [Nat.zero_add]
     refine vo_load_var rfl rfl rfl Try.underlying66 rfl rfl ?_
     refine vo_move_pv rfl rfl ?_
     refine vo_call [5] Try.func95 rfl rfl rfl rfl rfl rfl rfl (markAttrSS_sat (L := a.attrs) (by omega) a2 (by omega)) ?_
     rintro _ _ ⟨w2, L2, ⟨hw2, hx2⟩, rfl, rfl⟩
     refine ⟨Nat.le_of_ble_eq_true rfl, ⟨rfl, rfl, rfl, rfl⟩, .inl rfl, ?_⟩
     refine vo_stM ?_
     refine vo_assign_pv rfl rfl ?_
     refine vo_nil ?_
     refine hK21 _ ?_
     refine vc_seq fun K22 hK22 => ?_
     refine vc_region ?_
     refine vo_fieldAddr_ptr rfl rfl Try.underlying69 rfl inf67 (by rw [sz67]; decide) ?_
     try simp only [Nat.zero_add]
     refine vo_load_var rfl rfl rfl Try.underlying67 rfl rfl ?_
     refine vo_move_pv rfl rfl ?_
     refine vo_call [6] Try.func96 rfl rfl rfl rfl rfl rfl rfl (markObjectS_sat (L := a.objs) (by omega) o2 (by omega)) ?_
     rintro _ _ ⟨w3, L3, ⟨hw3, hx3⟩, rfl, rfl⟩
     refine ⟨Nat.le_of_ble_eq_true rfl, ⟨rfl, rfl, rfl, rfl⟩, .inl rfl, ?_⟩
     refine vo_stM ?_
     refine vo_assign_pv rfl rfl ?_
     refine vo_nil ?_
     refine hK22 _ ?_
     refine vc_seq fun K23 hK23 => ?_
     refine vc_region ?_
     refine vo_move_pv rfl rfl ?_
     refine vo_assign_pv rfl rfl ?_
     refine vo_nil ?_
     refine hK23 _ ?_
     refine vc_ret ?_
     refine inQ_ret rfl rfl ?_
     refine vo_stM ?_
     refine vo_assign_pv rfl rfl ?_
     refine vo_nil ?_
     refine hK18 _ ?_
     refine vc_seq fun K24 hK24 => ?_
     refine vc_seq fun K25 hK25 => ?_
     refine vc_region ?_
     refine vo_move_pv rfl rfl ?_
     refine vo_binI rfl rfl rfl rfl trivial ?_
     refine vo_move_pv rfl rfl ?_
     refine vo_split 59 rfl (fun hg5 => ?_) (fun hg5 => ?_)
     ·try simp only [zq0, zq1, zq2, zq3, zq4, zq5, zq6, zq7, zq8, zq9, zqa, zqb, zqc, zqd, zqe, zqf] at hg5
      refine vo_guard_off rfl rfl rfl rfl rfl ?_
      refine vo_guard_off rfl rfl rfl rfl rfl ?_
      refine vo_guard_off rfl rfl rfl rfl rfl ?_
      refine vo_guard_off rfl rfl rfl rfl rfl ?_
      refine vo_pick_t rfl rfl ?_
      refine vo_move_pv rfl rfl ?_
      refine vo_guard_off rfl rfl rfl rfl rfl ?_
      refine vo_guard_off rfl rfl rfl rfl rfl ?_
      refine vo_guard_off rfl rfl rfl rfl rfl ?_
      refine vo_pick_t rfl rfl ?_
      refine vo_nil ?_
      refine hK25 _ ?_
      refine vc_cond_t rfl ?_
      refine vc_seq fun K26 hK26 => ?_
      refine vc_region ?_
      refine vo_assign_pv rfl rfl ?_
      refine vo_nil ?_
      refine hK26 _ ?_
      refine vc_ret ?_
      (try clear hK26); (try clear hK25); (try clear hK24); (try clear hK23); (try clear hK22); (try clear hK21); (try clear hK20); (try clear hK19); (try clear hK18); (try clear hK17); (try clear hK16); (try clear hK15); (try clear hK14); (try clear hK13); (try clear hK12); (try clear hK11); (try clear hK10); (try clear hK9); (try clear hK8); (try clear hK7); (try clear hK6); (try clear hK5); (try clear hK4); (try clear hK3); (try clear hK2); (try clear hK1)
      change retQ _ _ _ _ _
      refine retQ_sel [] (srows := []) (.inr rfl) hC rfl rfl rfl rfl rfl rfl rfl ?_
      first | exact ⟨rfl, rfl⟩ | (exfalso; simp_all; done) | (exfalso; omega)
     ·try simp only [zq0, zq1, zq2, zq3, zq4, zq5, zq6, zq7, zq8, zq9, zqa, zqb, zqc, zqd, zqe, zqf] at hg5
      refine vo_guard_on rfl rfl rfl ?_
      refine vo_move_ref rfl rfl ?_
      refine vo_guard_on rfl rfl rfl ?_
      refine vo_move_pv rfl rfl ?_
      refine vo_guard_on rfl rfl rfl ?_
      refine vo_call0 Try.func30 rfl rfl rfl rfl (eqIntS_sat (a := (hookN a c)) (b := (hookN a c)) (by have := hookN_len (w := a) (c := c) hs; omega) (by have := hookN_len (w := a) (c := c) hs; omega)) ?_
      rintro _ _ ⟨rfl, rfl⟩
      refine ⟨rfl, rfl, .inr rfl, ?_⟩
      refine vo_stM ?_
      refine vo_guard_on rfl rfl rfl ?_
      refine vo_not rfl rfl ?_
      refine vo_pick_f rfl rfl ?_
      refine vo_move_pv rfl rfl ?_
      refine vo_split 65 rfl (fun hg6 => ?_) (fun hg6 => ?_)
      ·try simp only [zq0, zq1, zq2, zq3, zq4, zq5, zq6, zq7, zq8, zq9, zqa, zqb, zqc, zqd, zqe, zqf] at hg6
       refine vo_guard_off rfl rfl rfl rfl rfl ?_
       refine vo_guard_off rfl rfl rfl rfl rfl ?_
       refine vo_guard_off rfl rfl rfl rfl rfl ?_
       refine vo_pick_t rfl rfl ?_
       refine vo_nil ?_
       refine hK25 _ ?_
       refine vc_cond_t rfl ?_
       refine vc_seq fun K27 hK27 => ?_
       refine vc_region ?_
       refine vo_assign_pv rfl rfl ?_
       refine vo_nil ?_
       refine hK27 _ ?_
       refine vc_ret ?_
       (try clear hK27); (try clear hK26); (try clear hK25); (try clear hK24); (try clear hK23); (try clear hK22); (try clear hK21); (try clear hK20); (try clear hK19); (try clear hK18); (try clear hK17); (try clear hK16); (try clear hK15); (try clear hK14); (try clear hK13); (try clear hK12); (try clear hK11); (try clear hK10); (try clear hK9); (try clear hK8); (try clear hK7); (try clear hK6); (try clear hK5); (try clear hK4); (try clear hK3); (try clear hK2); (try clear hK1)
       change retQ _ _ _ _ _
       refine retQ_sel [] (srows := []) (.inr rfl) hC rfl rfl rfl rfl rfl rfl rfl ?_
       first | exact ⟨rfl, rfl⟩ | (exfalso; simp_all; done) | (exfalso; omega)
      ·try simp only [zq0, zq1, zq2, zq3, zq4, zq5, zq6, zq7, zq8, zq9, zqa, zqb, zqc, zqd, zqe, zqf] at hg6
       refine vo_guard_on rfl rfl rfl ?_
       refine vo_move_pv rfl rfl ?_
       refine vo_guard_on rfl rfl rfl ?_
       refine vo_move_pv rfl rfl ?_
       refine vo_guard_on rfl rfl rfl ?_
       refine vo_binI rfl rfl rfl rfl trivial ?_
       refine vo_pick_f rfl rfl ?_
       refine vo_nil ?_
       refine hK25 _ ?_
       refine vc_cond rfl (fun hc7 => ?_) (fun hc7 => ?_)
       ·try simp only [zq0, zq1, zq2, zq3, zq4, zq5, zq6, zq7, zq8, zq9, zqa, zqb, zqc, zqd, zqe, zqf] at hc7
        refine vc_seq fun K28 hK28 => ?_
        refine vc_region ?_
        refine vo_assign_pv rfl rfl ?_
        refine vo_nil ?_
        refine hK28 _ ?_
        refine vc_ret ?_
        (try clear hK28); (try clear hK27); (try clear hK26); (try clear hK25); (try clear hK24); (try clear hK23); (try clear hK22); (try clear hK21); (try clear hK20); (try clear hK19); (try clear hK18); (try clear hK17); (try clear hK16); (try clear hK15); (try clear hK14); (try clear hK13); (try clear hK12); (try clear hK11); (try clear hK10); (try clear hK9); (try clear hK8); (try clear hK7); (try clear hK6); (try clear hK5); (try clear hK4); (try clear hK3); (try clear hK2); (try clear hK1)
        change retQ _ _ _ _ _
        refine retQ_sel [] (srows := []) (.inr rfl) hC rfl rfl rfl rfl rfl rfl rfl ?_
        first | exact ⟨rfl, rfl⟩ | (exfalso; simp_all; done) | (exfalso; omega)
       ·try simp only [zq0, zq1, zq2, zq3, zq4, zq5, zq6, zq7, zq8, zq9, zqa, zqb, zqc, zqd, zqe, zqf] at hc7
        refine vc_skip ?_
        refine hK24 _ ?_
        refine vc_seq fun K29 hK29 => ?_
        refine vc_region ?_
        refine vo_assign_pv rfl rfl ?_
        refine vo_nil ?_
        refine hK29 _ ?_
        refine vc_seq fun K30 hK30 => ?_
        refine vc_region ?_
        refine vo_move_ref rfl rfl ?_
        refine vo_move_pv rfl rfl ?_
        refine vo_call [8] Try.func32 rfl rfl rfl rfl rfl rfl rfl (markIntS_sat (a := (hookN a c)) (by have := hookN_len (w := a) (c := c) hs; omega) (by omega)) ?_
        rintro _ _ ⟨_, rfl, -, -, rfl, rfl⟩
        refine ⟨Nat.le_of_ble_eq_true rfl, ⟨rfl, rfl, rfl, rfl⟩, .inl rfl, ?_⟩
        refine vo_stM ?_
        refine vo_assign_pv rfl rfl ?_
        refine vo_nil ?_
        refine hK30 _ ?_
        refine vc_seq fun K31 hK31 => ?_
        refine vc_region ?_
        refine vo_assign_pv rfl rfl ?_
        refine vo_nil ?_
        refine hK31 _ ?_
        refine vc_seq fun K32 hK32 => ?_
        refine vc_region ?_
        refine vo_move_ref rfl rfl ?_
        refine vo_move_pv rfl rfl ?_
        refine vo_call0 Try.func33 rfl rfl rfl rfl (heldIntS_sat (k := 1) (n := (hookN a c).length) (by have := hookN_len (w := a) (c := c) hs; omega) (by omega)) ?_
        rintro _ _ ⟨rfl, rfl⟩
        refine ⟨rfl, rfl, .inr rfl, ?_⟩
        refine vo_stM ?_
        refine vo_assign_pv rfl rfl ?_
        refine vo_nil ?_
        refine hK32 _ ?_
        refine vc_seq fun K33 hK33 => ?_
        refine vc_seq fun K34 hK34 => ?_
        refine vc_region ?_
        refine vo_move_pv rfl rfl ?_
        refine vo_binI rfl rfl rfl rfl trivial ?_
        refine vo_nil ?_
        refine hK34 _ ?_
        refine vc_cond rfl (fun hc8 => ?_) (fun hc8 => ?_)
        ·try simp only [zq0, zq1, zq2, zq3, zq4, zq5, zq6, zq7, zq8, zq9, zqa, zqb, zqc, zqd, zqe, zqf] at hc8
         refine vc_seq fun K35 hK35 => ?_
         refine vc_region ?_
         refine vo_assign_pv rfl rfl ?_
         refine vo_nil ?_
         refine hK35 _ ?_
         refine vc_ret ?_
         (try clear hK35); (try clear hK34); (try clear hK33); (try clear hK32); (try clear hK31); (try clear hK30); (try clear hK29); (try clear hK28); (try clear hK27); (try clear hK26); (try clear hK25); (try clear hK24); (try clear hK23); (try clear hK22); (try clear hK21); (try clear hK20); (try clear hK19); (try clear hK18); (try clear hK17); (try clear hK16); (try clear hK15); (try clear hK14); (try clear hK13); (try clear hK12); (try clear hK11); (try clear hK10); (try clear hK9); (try clear hK8); (try clear hK7); (try clear hK6); (try clear hK5); (try clear hK4); (try clear hK3); (try clear hK2); (try clear hK1)
         change retQ _ _ _ _ _
         refine retQ_sel [] (srows := []) (.inr rfl) hC rfl rfl rfl rfl rfl rfl rfl ?_
         first | exact ⟨rfl, rfl⟩ | (exfalso; simp_all; done) | (exfalso; omega)
        ·try simp only [zq0, zq1, zq2, zq3, zq4, zq5, zq6, zq7, zq8, zq9, zqa, zqb, zqc, zqd, zqe, zqf] at hc8
         refine vc_skip ?_
         refine hK33 _ ?_
         refine vc_seq fun K36 hK36 => ?_
         refine vc_seq fun K37 hK37 => ?_
         refine vc_region ?_
         refine vo_move_pv rfl rfl ?_
         refine vo_move_pv rfl rfl ?_
         refine vo_binI rfl rfl rfl rfl trivial ?_
         refine vo_nil ?_
         refine hK37 _ ?_
         refine vc_cond rfl (fun hc9 => ?_) (fun hc9 => ?_)
         ·try simp only [zq0, zq1, zq2, zq3, zq4, zq5, zq6, zq7, zq8, zq9, zqa, zqb, zqc, zqd, zqe, zqf] at hc9
          refine vc_seq fun K38 hK38 => ?_
          refine vc_region ?_
          refine vo_assign_pv rfl rfl ?_
          refine vo_nil ?_
          refine hK38 _ ?_
          refine vc_ret ?_
          (try clear hK38); (try clear hK37); (try clear hK36); (try clear hK35); (try clear hK34); (try clear hK33); (try clear hK32); (try clear hK31); (try clear hK30); (try clear hK29); (try clear hK28); (try clear hK27); (try clear hK26); (try clear hK25); (try clear hK24); (try clear hK23); (try clear hK22); (try clear hK21); (try clear hK20); (try clear hK19); (try clear hK18); (try clear hK17); (try clear hK16); (try clear hK15); (try clear hK14); (try clear hK13); (try clear hK12); (try clear hK11); (try clear hK10); (try clear hK9); (try clear hK8); (try clear hK7); (try clear hK6); (try clear hK5); (try clear hK4); (try clear hK3); (try clear hK2); (try clear hK1)
          change retQ _ _ _ _ _
          refine retQ_sel [] (srows := []) (.inr rfl) hC rfl rfl rfl rfl rfl rfl rfl ?_
          first | exact ⟨rfl, rfl⟩ | (exfalso; simp_all; done) | (exfalso; omega)
         ·try simp only [zq0, zq1, zq2, zq3, zq4, zq5, zq6, zq7, zq8, zq9, zqa, zqb, zqc, zqd, zqe, zqf] at hc9
          refine vc_skip ?_
          refine hK36 _ ?_
          refine vc_seq fun K39 hK39 => ?_
          refine vc_region ?_
          refine vo_load_varS rfl rfl rfl Try.underlying62 rfl inf62 sz62 rfl rfl ?_
          refine vo_call [] Try.func51 rfl rfl rfl rfl rfl rfl rfl (toWorldT_sat hs) ?_
          rintro _ _ ⟨rfl, rfl⟩
          refine ⟨Nat.le_of_ble_eq_true rfl, ⟨rfl, rfl, rfl, rfl⟩, .inl rfl, ?_⟩
          refine vo_stM ?_
          refine vo_move_pv rfl rfl ?_
          refine vo_move_pv rfl rfl ?_
          refine vo_call [] Try.func52 rfl rfl rfl rfl rfl rfl rfl (hooksOwn_sat hs) ?_
          rintro _ _ ⟨nlg, rfl, rfl⟩
          refine ⟨Nat.le_of_ble_eq_true rfl, ⟨rfl, rfl, rfl, rfl⟩, .inr ⟨rfl, rfl⟩, ?_⟩
          refine vo_stM ?_
          refine vo_move rfl ?_
          refine vo_stM ?_
          refine vo_extract rfl rfl rfl ?_
          refine vo_extract rfl rfl rfl ?_
          refine vo_assign_ref rfl rfl ?_
          refine vo_assign_pv rfl rfl ?_
          refine vo_nil ?_
          refine hK39 _ ?_
          refine vc_seq fun K40 hK40 => ?_
          refine vc_seq fun K41 hK41 => ?_
          refine vc_region ?_
          refine vo_move_ref rfl rfl ?_
          refine vo_move_pv rfl rfl ?_
          refine vo_call0 Try.func30 rfl rfl rfl rfl (eqIntS_sat (a := (hookN a c)) (b := (hookN a c)) (by have := hookN_len (w := a) (c := c) hs; omega) (by have := hookN_len (w := a) (c := c) hs; omega)) ?_
          rintro _ _ ⟨rfl, rfl⟩
          refine ⟨rfl, rfl, .inr rfl, ?_⟩
          refine vo_stM ?_
          refine vo_not rfl rfl ?_
          refine vo_move_pv rfl rfl ?_
          refine vo_split 93 rfl (fun hg10 => ?_) (fun hg10 => ?_)
          ·try simp only [zq0, zq1, zq2, zq3, zq4, zq5, zq6, zq7, zq8, zq9, zqa, zqb, zqc, zqd, zqe, zqf] at hg10
           refine vo_guard_off rfl rfl rfl rfl rfl ?_
           refine vo_guard_off rfl rfl rfl rfl rfl ?_
           refine vo_guard_off rfl rfl rfl rfl rfl ?_
           refine vo_pick_t rfl rfl ?_
           refine vo_nil ?_
           refine hK41 _ ?_
           refine vc_cond_t rfl ?_
           refine vc_seq fun K42 hK42 => ?_
           refine vc_region ?_
           refine vo_assign_pv rfl rfl ?_
           refine vo_nil ?_
           refine hK42 _ ?_
           refine vc_ret ?_
           (try clear hK42); (try clear hK41); (try clear hK40); (try clear hK39); (try clear hK38); (try clear hK37); (try clear hK36); (try clear hK35); (try clear hK34); (try clear hK33); (try clear hK32); (try clear hK31); (try clear hK30); (try clear hK29); (try clear hK28); (try clear hK27); (try clear hK26); (try clear hK25); (try clear hK24); (try clear hK23); (try clear hK22); (try clear hK21); (try clear hK20); (try clear hK19); (try clear hK18); (try clear hK17); (try clear hK16); (try clear hK15); (try clear hK14); (try clear hK13); (try clear hK12); (try clear hK11); (try clear hK10); (try clear hK9); (try clear hK8); (try clear hK7); (try clear hK6); (try clear hK5); (try clear hK4); (try clear hK3); (try clear hK2); (try clear hK1)
           change retQ _ _ _ _ _
           refine retQ_sel [] (srows := []) (.inr rfl) hC rfl rfl rfl rfl rfl rfl rfl ?_
           first | exact ⟨rfl, rfl⟩ | (exfalso; simp_all; done) | (exfalso; omega)
          ·try simp only [zq0, zq1, zq2, zq3, zq4, zq5, zq6, zq7, zq8, zq9, zqa, zqb, zqc, zqd, zqe, zqf] at hg10
           refine vo_guard_on rfl rfl rfl ?_
           refine vo_move_pv rfl rfl ?_
           refine vo_guard_on rfl rfl rfl ?_
           refine vo_move_pv rfl rfl ?_
           refine vo_guard_on rfl rfl rfl ?_
           refine vo_binI rfl rfl rfl rfl trivial ?_
           refine vo_pick_f rfl rfl ?_
           refine vo_nil ?_
           refine hK41 _ ?_
           refine vc_cond rfl (fun hc11 => ?_) (fun hc11 => ?_)
           ·try simp only [zq0, zq1, zq2, zq3, zq4, zq5, zq6, zq7, zq8, zq9, zqa, zqb, zqc, zqd, zqe, zqf] at hc11
            refine vc_seq fun K43 hK43 => ?_
            refine vc_region ?_
            refine vo_assign_pv rfl rfl ?_
            refine vo_nil ?_
            refine hK43 _ ?_
            refine vc_ret ?_
            (try clear hK43); (try clear hK42); (try clear hK41); (try clear hK40); (try clear hK39); (try clear hK38); (try clear hK37); (try clear hK36); (try clear hK35); (try clear hK34); (try clear hK33); (try clear hK32); (try clear hK31); (try clear hK30); (try clear hK29); (try clear hK28); (try clear hK27); (try clear hK26); (try clear hK25); (try clear hK24); (try clear hK23); (try clear hK22); (try clear hK21); (try clear hK20); (try clear hK19); (try clear hK18); (try clear hK17); (try clear hK16); (try clear hK15); (try clear hK14); (try clear hK13); (try clear hK12); (try clear hK11); (try clear hK10); (try clear hK9); (try clear hK8); (try clear hK7); (try clear hK6); (try clear hK5); (try clear hK4); (try clear hK3); (try clear hK2); (try clear hK1)
            change retQ _ _ _ _ _
            refine retQ_sel [] (srows := []) (.inr rfl) hC rfl rfl rfl rfl rfl rfl rfl ?_
            first | exact ⟨rfl, rfl⟩ | (exfalso; simp_all; done) | (exfalso; omega)
           ·try simp only [zq0, zq1, zq2, zq3, zq4, zq5, zq6, zq7, zq8, zq9, zqa, zqb, zqc, zqd, zqe, zqf] at hc11
            refine vc_skip ?_
            refine hK40 _ ?_
            refine vc_seq fun K44 hK44 => ?_
            refine vc_region ?_
            refine vo_assign_pv rfl rfl ?_
            refine vo_nil ?_
            refine hK44 _ ?_
            refine vc_seq fun K45 hK45 => ?_
            refine vc_region ?_
            refine vo_move_ref rfl rfl ?_
            refine vo_move_pv rfl rfl ?_
            refine vo_call0 Try.func33 rfl rfl rfl rfl (heldIntS_sat (k := 1) (n := (hookN a c).length) (by have := hookN_len (w := a) (c := c) hs; omega) (by omega)) ?_
            rintro _ _ ⟨rfl, rfl⟩
            refine ⟨rfl, rfl, .inr rfl, ?_⟩
            refine vo_stM ?_
            refine vo_assign_pv rfl rfl ?_
            refine vo_nil ?_
            refine hK45 _ ?_
            refine vc_seq fun K46 hK46 => ?_
            refine vc_seq fun K47 hK47 => ?_
            refine vc_region ?_
            refine vo_move_pv rfl rfl ?_
            refine vo_binI rfl rfl rfl rfl trivial ?_
            refine vo_nil ?_
            refine hK47 _ ?_
            refine vc_cond rfl (fun hc12 => ?_) (fun hc12 => ?_)
            ·try simp only [zq0, zq1, zq2, zq3, zq4, zq5, zq6, zq7, zq8, zq9, zqa, zqb, zqc, zqd, zqe, zqf] at hc12
             refine vc_seq fun K48 hK48 => ?_
             refine vc_region ?_
             refine vo_assign_pv rfl rfl ?_
             refine vo_nil ?_
             refine hK48 _ ?_
             refine vc_ret ?_
             (try clear hK48); (try clear hK47); (try clear hK46); (try clear hK45); (try clear hK44); (try clear hK43); (try clear hK42); (try clear hK41); (try clear hK40); (try clear hK39); (try clear hK38); (try clear hK37); (try clear hK36); (try clear hK35); (try clear hK34); (try clear hK33); (try clear hK32); (try clear hK31); (try clear hK30); (try clear hK29); (try clear hK28); (try clear hK27); (try clear hK26); (try clear hK25); (try clear hK24); (try clear hK23); (try clear hK22); (try clear hK21); (try clear hK20); (try clear hK19); (try clear hK18); (try clear hK17); (try clear hK16); (try clear hK15); (try clear hK14); (try clear hK13); (try clear hK12); (try clear hK11); (try clear hK10); (try clear hK9); (try clear hK8); (try clear hK7); (try clear hK6); (try clear hK5); (try clear hK4); (try clear hK3); (try clear hK2); (try clear hK1)
             change retQ _ _ _ _ _
             refine retQ_sel [] (srows := []) (.inr rfl) hC rfl rfl rfl rfl rfl rfl rfl ?_
             first | exact ⟨rfl, rfl⟩ | (exfalso; simp_all; done) | (exfalso; omega)
            ·try simp only [zq0, zq1, zq2, zq3, zq4, zq5, zq6, zq7, zq8, zq9, zqa, zqb, zqc, zqd, zqe, zqf] at hc12
             refine vc_skip ?_
             refine hK46 _ ?_
             refine vc_seq fun K49 hK49 => ?_
             refine vc_seq fun K50 hK50 => ?_
             refine vc_region ?_
             refine vo_move_pv rfl rfl ?_
             refine vo_move_pv rfl rfl ?_
             refine vo_binI rfl rfl rfl rfl trivial ?_
             refine vo_nil ?_
             refine hK50 _ ?_
             refine vc_cond rfl (fun hc13 => ?_) (fun hc13 => ?_)
             ·try simp only [zq0, zq1, zq2, zq3, zq4, zq5, zq6, zq7, zq8, zq9, zqa, zqb, zqc, zqd, zqe, zqf] at hc13
              refine vc_seq fun K51 hK51 => ?_
              refine vc_region ?_
              refine vo_assign_pv rfl rfl ?_
              refine vo_nil ?_
              refine hK51 _ ?_
              refine vc_ret ?_
              (try clear hK51); (try clear hK50); (try clear hK49); (try clear hK48); (try clear hK47); (try clear hK46); (try clear hK45); (try clear hK44); (try clear hK43); (try clear hK42); (try clear hK41); (try clear hK40); (try clear hK39); (try clear hK38); (try clear hK37); (try clear hK36); (try clear hK35); (try clear hK34); (try clear hK33); (try clear hK32); (try clear hK31); (try clear hK30); (try clear hK29); (try clear hK28); (try clear hK27); (try clear hK26); (try clear hK25); (try clear hK24); (try clear hK23); (try clear hK22); (try clear hK21); (try clear hK20); (try clear hK19); (try clear hK18); (try clear hK17); (try clear hK16); (try clear hK15); (try clear hK14); (try clear hK13); (try clear hK12); (try clear hK11); (try clear hK10); (try clear hK9); (try clear hK8); (try clear hK7); (try clear hK6); (try clear hK5); (try clear hK4); (try clear hK3); (try clear hK2); (try clear hK1)
              change retQ _ _ _ _ _
              refine retQ_sel [] (srows := []) (.inr rfl) hC rfl rfl rfl rfl rfl rfl rfl ?_
              first | exact ⟨rfl, rfl⟩ | (exfalso; simp_all; done) | (exfalso; omega)
             ·try simp only [zq0, zq1, zq2, zq3, zq4, zq5, zq6, zq7, zq8, zq9, zqa, zqb, zqc, zqd, zqe, zqf] at hc13
              refine vc_skip ?_
              refine hK49 _ ?_
              refine vc_seq fun K52 hK52 => ?_
              refine vc_region ?_
              refine vo_assign_pv rfl rfl ?_
              refine vo_nil ?_
              refine hK52 _ ?_
              refine vc_ret ?_
              (try clear hK52); (try clear hK51); (try clear hK50); (try clear hK49); (try clear hK48); (try clear hK47); (try clear hK46); (try clear hK45); (try clear hK44); (try clear hK43); (try clear hK42); (try clear hK41); (try clear hK40); (try clear hK39); (try clear hK38); (try clear hK37); (try clear hK36); (try clear hK35); (try clear hK34); (try clear hK33); (try clear hK32); (try clear hK31); (try clear hK30); (try clear hK29); (try clear hK28); (try clear hK27); (try clear hK26); (try clear hK25); (try clear hK24); (try clear hK23); (try clear hK22); (try clear hK21); (try clear hK20); (try clear hK19); (try clear hK18); (try clear hK17); (try clear hK16); (try clear hK15); (try clear hK14); (try clear hK13); (try clear hK12); (try clear hK11); (try clear hK10); (try clear hK9); (try clear hK8); (try clear hK7); (try clear hK6); (try clear hK5); (try clear hK4); (try clear hK3); (try clear hK2); (try clear hK1)
              change retQ _ _ _ _ _
              refine retQ_sel [] (srows := []) (.inr rfl) hC rfl rfl rfl rfl rfl rfl rfl ?_
              first | exact ⟨rfl, rfl⟩ | (exfalso; simp_all; done) | (exfalso; omega)

end Go.Vl
