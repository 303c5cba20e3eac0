/- A part of a row whose slices are its own is lent to a function, which may write it. -/
import Derived.Test.YtmjbklmjehjpoacVlTree
namespace Go.Vl
set_option linter.unusedVariables false
set_option linter.unusedSimpArgs false
open Go.RowKit

section
variable {P : Program} {C : Ctx} {Q : Go.Exit → St → Prop} {s : St} {ops : Array Oper} {rest : List Oper} {t : Nat} {ty : TypeId} {pos : String} {af : Array Edge}

/-- A slice in such a row is read: the row remembers what its cell holds. -/
theorem vo_load_sub {x : Operand} {T id R i : Nat} {nl : Option Bool} {xs : List PV} {D : TypeDesc} (ht : Nat.blt t s.n = true) (hx : getO s.env x = .ptr id 1 i 0) (hrow : s.rows[id]? = some (.tree R 1 nl none xs))
    (hT : P.underlying T = some D) (hD : D.isRow = false) (hi : i < xs.length)
    (next : ∀ u : Value, VO P C ops rest Q ⟨s.n, (t, .val u) :: s.env, s.rows.set id (.tree R 1 nl (some (i, some u)) xs)⟩) : VO P C ops (⟨some t, .load T x, ty, pos, af, none⟩ :: rest) Q s := by
  intro a w ⟨m, hs⟩
  obtain ⟨b, hv, hb, hid⟩ := hs.ptr hx
  have hlid : liveAt s.rows id := ⟨_, hrow, rfl⟩
  have hR := hs.rows id _ hrow
  have key : ∃ u, w.cell? ⟨b, i, none⟩ = some u ∧ RowOK w (Gd C s.rows m w) m s.rows.length (m id) (.tree R 1 nl (some (i, some u)) xs) := by
    generalize m id = v at *
    cases hR with
    | tree mv t' e nl h xs vals Sf hown h1 h2 hw hr hd hn hz hS hkn =>
      rcases hown.2 with ⟨e0, hn0⟩ | ⟨g, cap, cur, e0, _, hheap, hle, hmx, hcs, htk⟩
      · omega
      · have hgb : b = g := by rw [e0] at hb; simpa [blk] using hb.symm
        subst hgb
        have hvl : vals.length = xs.length := by have := hown.1; omega
        have hu : vals[i]? = some vals[i] := List.getElem?_eq_getElem (by omega)
        refine ⟨vals[i], ?_, .tree _ R 1 nl _ xs vals Sf hown h1 h2 hw (fun k y j c u hy hc hu => .inl (hr k y j c u hy hc hu).tp) hd hn hz hS (fun q u h => by cases h; exact hu)⟩
        rw [cell_of_row w b _ cur R (0, 0) hheap, ← Array.getElem?_toList]
        rw [← hu, ← htk, List.getElem?_take, if_pos (by omega)]
  obtain ⟨u, hcell, hRu⟩ := key
  have hs2 : SimM C ⟨s.n, s.env, s.rows.set id (.tree R 1 nl (some (i, some u)) xs)⟩ m a w :=
    hs.storeRow (w' := w) (bo := none) hlid (fun _ e => by cases e) ⟨rfl, rfl, rfl, Nat.le_refl _, fun _ _ _ => rfl⟩ _ (fun hG => RowOK.mono hG (Nat.le_refl _) (fun _ _ => rfl) hRu (fun _ _ _ => rfl))
  refine wpList_plain rfl fun K hK => ?_
  unfold Oper.wp
  have hrun : (execOp a.eval ⟨some t, .load T x, ty, pos, af, none⟩).run P w = .ok (.value u) w := by
    have hagg : (isAgg T).run P w = .ok false w := by
      cases D <;> simp_all [isAgg, run_underlying hT]
    simp only [Nat.mul_one, Nat.add_zero] at hv
    simp [execOp, Instr.loadAt, hv, Instr.sureAddr, loadVar, hagg, load, Sem.run, hcell]
  rw [hrun, Oper.upon_value]
  exact hK _ _ (next u _ _ ⟨m, hs2.put (blt_lt ht) (.val u)⟩)

/-- The row forgets what a cell of it holds. -/
theorem vo_unknow {l : List Oper} (id : Nat) {R e : Nat} {nl : Option Bool} {q : Nat} {u : Value} {xs : List PV} (hrow : s.rows[id]? = some (.tree R e nl (some (q, some u)) xs))
    (next : VO P C ops l Q ⟨s.n, s.env, s.rows.set id (.tree R e nl none xs)⟩) : VO P C ops l Q s := by
  intro a w ⟨m, hs⟩
  refine next a w ⟨m, hs.storeRow (w' := w) (bo := none) ⟨_, hrow, rfl⟩ (fun _ e => by cases e) ⟨rfl, rfl, rfl, Nat.le_refl _, fun _ _ _ => rfl⟩ _ (fun hG => ?_)⟩
  refine RowOK.mono hG (Nat.le_refl _) (fun _ _ => rfl) ?_ (fun _ _ _ => rfl)
  have hR := hs.rows id _ hrow
  generalize m id = v at *
  cases hR with
  | tree mv t' e nl h xs vals Sf hown h1 h2 hw hr hd hn hz hS hkn =>
    exact .tree _ R e nl none xs vals Sf hown h1 h2 hw (fun k y j c u hy hc hu => .inl (hr k y j c u hy hc hu).tpK) hd hn hz hS (fun _ _ h => by cases h)

def SV.isScal : SV → Bool
  | .pv _ p => p.scal
  | _ => false

/-- A slice of such a row is lent: the function writes its numbers, and hands back numbers. -/
theorem vo_call_sub {f : FuncId} {fn : Func} {x0 : Operand} {xr : List Operand} {Ts : Array TypeId} {id R i : Nat} {nl nlc : Option Bool} {ec : Nat} {u : Value} {xs ys : List PV} {args : List SV} {Rp : List SV → List PV → Prop}
    (hf : P.funcs[f]? = some fn) (hnm : (fn.name == "runtime.NumGoroutine") = false) (hbd : fn.body.isNone = false) (ht : Nat.blt t s.n = true)
    (hx0 : getO s.env x0 = .val u) (hrow : s.rows[id]? = some (.tree R 1 nl (some (i, some u)) xs)) (hget : xs[i]? = some (.sl nlc ec ys)) (hpl : plainX ys)
    (hargs : (xr.map (getO s.env)) = args) (hsc : args.all SV.isScal = true)
    (hsat : ∀ Rc, SatAt P f (.ref 0 :: args) [.own Rc ec nlc false ys] (fun res rows' => ∃ ys', rows' = [.own Rc ec nlc false ys'] ∧ plainX ys' ∧ res.all SV.isScal = true ∧ Rp res ys'))
    (next : ∀ res ys', res.all SV.isScal = true → Rp res ys' → VO P C ops rest Q ⟨s.n, (t, packS res) :: s.env, s.rows.set id (.tree R 1 nl none (xs.set i (.sl nlc ec ys')))⟩) :
    VO P C ops (⟨some t, .call ⟨.value (.func f), (x0 :: xr).toArray, Ts⟩, ty, pos, af, none⟩ :: rest) Q s := by
  intro a w ⟨m, hs⟩
  have hlid : liveAt s.rows id := ⟨_, hrow, rfl⟩
  have hR := hs.rows id _ hrow
  have hu0 : a.eval x0 = u := by
    have := hs.get x0
    rw [hx0] at this
    generalize a.eval x0 = v at this
    cases this
    rfl
  have hlt : ∀ {b : Nat}, (m id).S b → b < w.heap.size := fun hb => hs.lt hlid hb
  have hdist := hs.dist
  have hnewb := hs.newb
  have hbor := hs.bor
  generalize hmv : m id = v at *
  cases hR with
  | tree mv t' e nl h xs vals Sf hown h1 h2 hw hr hd hn hz hS hkn =>
    have hui : vals[i]? = some u := hkn i u rfl
    have hTP : TP w (.sl nlc ec ys) u (Sf i) := by
      have := (hr i (.sl nlc ec ys) 0 (.sl nlc ec ys) u hget rfl (by simpa using hui)).tpK
      simpa using this
    have hix : i < xs.length := (List.getElem?_eq_some_iff.1 hget).1
    obtain ⟨Rc, hRc⟩ : ∃ Rc, RowOK w (fun _ _ => False) (fun _ => ⟨u, Sf i⟩) 1 ⟨u, Sf i⟩ (.own Rc ec nlc false ys) := by
      cases hTP with
      | scal _ _ _ hsc9 => simp [PV.scal] at hsc9
      | sl tc e nl xs v vals2 Sf2 S hown2 g1 g2 gw gr gd gn gz gS =>
        have hemp : ∀ q b, ¬ Sf2 q b := by
          intro q b hb
          rcases Nat.lt_or_ge q (ys.length * ec) with hq | hq
          · obtain ⟨y, c, uu, hy, hc, huu, e1⟩ := cellAt hown2 gw hq
            have h3 := gr _ y _ c uu hy hc huu
            have h4 := hpl y (List.mem_of_getElem? hy) c (List.mem_of_getElem? hc)
            rw [e1] at h3
            cases h3 with
            | scal _ _ _ _ _ hS3 => exact hS3 b hb
            | sl t9 e9 nl9 xs9 v9 vals9 Sf9 S9 hown9 k1 k2 kw kr kd kn kz kS =>
              unfold plainB at h4
              split at h4
              · rename_i e8 h8
                cases h8
                have hv9 := k1 rfl
                rcases (kS b).1 hb with h5 | ⟨q9, h5⟩
                · rw [hv9] at h5; simp [blk] at h5
                · exact kz q9 b (by simp) h5
              · simp [PV.scal] at h4
          · exact gz q b hq hb
        have hSe : (⟨u, Sf i⟩ : MV) = .of u := by
          unfold MV.of
          congr 1
          funext b
          exact propext ((gS b).trans ⟨fun h => h.elim (fun h => h) (fun ⟨q, h⟩ => (hemp q b h).elim), .inl⟩)
        rw [hSe]
        refine ⟨tc, .own u tc ec nlc false ys vals2 hown2 g1 g2 gw (fun k y j c hy hc => ?_)⟩
        have hj : j < ec := by rw [← (gw k y hy).1]; exact (List.getElem?_eq_some_iff.1 hc).1
        have hk : k < ys.length := (List.getElem?_eq_some_iff.1 hy).1
        have hlt2 : k * ec + j < vals2.length := by
          rw [hown2.1]
          have := Nat.mul_le_mul_right ec (show k + 1 ≤ ys.length by omega)
          rw [Nat.add_mul] at this
          omega
        refine ⟨_, List.getElem?_eq_getElem hlt2, ?_⟩
        have h3 := gr k y j c _ hy hc (List.getElem?_eq_getElem hlt2)
        exact (h3.rp (G := fun b => Sf2 (k * ec + j) b) (fun _ h => h)).mono fun b hb => (hemp _ b hb).elim
    refine wpList_plain rfl fun K hK => ?_
    unfold Oper.wp
    rw [run_call (t := t) hf hnm hbd, Oper.upon_enter]
    let C' : Ctx := ⟨w, fun _ => False, 1, fun _ => ⟨u, Sf i⟩⟩
    have hvals : ((x0 :: xr).toArray.map a.eval) = (u :: xr.map a.eval).toArray := by simp [hu0]
    have hsz : ((x0 :: xr).toArray.map a.eval).size = (SV.ref 0 :: args).length := by rw [← hargs]; simp
    have hs0 : SimM C' ⟨((x0 :: xr).toArray.map a.eval).size, enumE 0 (.ref 0 :: args), [.own Rc ec nlc false ys]⟩ (fun _ => ⟨u, Sf i⟩) ⟨(x0 :: xr).toArray.map a.eval, []⟩ C'.w0 := {
      defs := rfl
      size := rfl
      os := rfl
      tape := rfl
      output := rfl
      hsz := Nat.le_refl _
      old := fun _ _ _ => rfl
      bor := fun _ _ => rfl
      nbl := Nat.le_refl _
      newb := fun k b hk hl _ => by
        obtain ⟨r, hr, _⟩ := hl
        have : k < 1 := (List.getElem?_eq_some_iff.1 hr).1
        change 1 ≤ k at hk
        omega
      dist := fun k1 k2 b hl1 hl2 _ _ => by
        obtain ⟨r, hr, _⟩ := hl1
        obtain ⟨r2, hr2, _⟩ := hl2
        have a1 : k1 < 1 := (List.getElem?_eq_some_iff.1 hr).1
        have a2 : k2 < 1 := (List.getElem?_eq_some_iff.1 hr2).1
        omega
      rows := fun k r hk => by
        have a1 : k < 1 := (List.getElem?_eq_some_iff.1 hk).1
        have a2 : k = 0 := by omega
        subst a2
        cases hk
        exact RowOK.mono (m := fun _ => ⟨u, Sf i⟩) (fun _ _ h => h.elim) (Nat.le_refl _) (fun _ _ => rfl) hRc (fun _ _ _ => rfl)
      env := fun k => by
        show RS w _ _ _ (look (enumE 0 (.ref 0 :: args)) k) _
        rw [look_enumE]
        simp only [Nat.zero_le, if_true, Nat.sub_zero]
        rw [hvals]
        cases k with
        | zero => exact .ref 0 (by simp)
        | succ k =>
          simp only [List.getElem?_cons_succ]
          rw [← hargs]
          simp only [List.getElem?_map]
          cases hk : xr[k]? with
          | none => exact .any _
          | some y =>
            simp only [Option.map_some, Option.getD_some]
            have e2 : ((u :: xr.map a.eval).toArray).getD (k+1) undef = a.eval y := by
              have hkl := (List.getElem?_eq_some_iff.1 hk)
              obtain ⟨hkl, e⟩ := hkl
              simp [Array.getD, hkl, e]
            rw [e2]
            have hv := hs.get y
            have hyy : (getO s.env y).isScal = true := by
              rw [List.all_eq_true] at hsc
              exact hsc _ (by rw [← hargs]; exact List.mem_map.2 ⟨y, List.mem_of_getElem? hk, rfl⟩)
            generalize getO s.env y = gy at *
            generalize a.eval y = vy at *
            cases hv with
            | pv fr p v hp => exact .pv _ _ _ (hp.scal_any hyy)
            | _ => simp [SV.isScal] at hyy }
    refine (hsat Rc C' (fun _ => ⟨u, Sf i⟩) _ rfl (fun b hb => hb.elim) hsz hs0).mono ?_
    rintro ex w' ⟨us, res, rows', m2, rfl, hus, hs', ys', rfl, hpl', hrs, hRp⟩
    have hold : ∀ k, k < w.heap.size → ¬ Sf i k → w'.heap[k]? = w.heap[k]? := fun k hk hn => hs'.old k hk (fun q _ => hn)
    have hszw : w.heap.size ≤ w'.heap.size := hs'.hsz
    have hm20 : m2 0 = ⟨u, Sf i⟩ := hs'.bor 0 (Nat.lt_succ_self 0)
    have hRc' : RowOK w' (Gd C' [.own Rc ec nlc false ys'] m2 w') m2 1 ⟨u, Sf i⟩ (.own Rc ec nlc false ys') := by
      have := hs'.rows 0 _ rfl
      rw [hm20] at this
      exact this
    have hTP' := (own_tp hRc' hpl').1
    have hSid : ∀ b, Sf i b → v.S b := fun b hb => (hS b).2 (.inr ⟨i, hb⟩)
    have hG : ∀ fl b, Gd C s.rows m w fl b → Gd C (s.rows.set id (.tree R 1 nl none (xs.set i (.sl nlc ec ys')))) m w' fl b ∧ w'.heap[b]? = w.heap[b]? :=
      Gd.step (fun b => Sf i b) hszw hold (fun b hb => ⟨id, hlid, by rw [hmv]; exact hSid b hb⟩) (fun b _ ⟨j, hl, hbk⟩ => ⟨j, liveAt_set hl hlid, hbk⟩)
    have hidl : id < s.rows.length := (List.getElem?_eq_some_iff.1 hrow).1
    have hvl : vals.length = xs.length := by have := hown.1; omega
    have hnew : RowOK w' (Gd C (s.rows.set id (.tree R 1 nl none (xs.set i (.sl nlc ec ys')))) m w') m s.rows.length v (.tree R 1 nl none (xs.set i (.sl nlc ec ys'))) := by
      have hown' : w'.ownsRow 0 R 1 v.v xs.length vals := ownsRow_blk hown fun b hb => hold b (hlt ((hS b).2 (.inl hb))) (fun h => hn i b h hb)
      refine .tree v R 1 nl none _ vals Sf (by rw [List.length_set]; exact hown') h1 h2 ?_ ?_ hd hn (by rw [List.length_set]; exact hz) hS (fun _ _ h => by cases h)
      · intro k y hy
        rw [List.getElem?_set] at hy
        split at hy
        · cases hy; exact fits_of rfl
        · exact hw k y hy
      · intro k y j c uu hy hc huu
        rw [List.getElem?_set] at hy
        split at hy
        · rename_i eki
          subst eki
          · cases hy
            have hj : j = 0 := by
              cases j with
              | zero => rfl
              | succ j => simp [PV.cells] at hc
            subst hj
            have hc1 : c = .sl nlc ec ys' := by simpa [PV.cells] using hc.symm
            subst hc1
            simp only [Nat.mul_one, Nat.add_zero] at huu ⊢
            rw [hui] at huu
            cases huu
            exact .inl hTP'
        · rename_i eki
          have h3 := (hr k y j c uu hy hc huu).tpK
          refine .inl (h3.mono fun b hb => hold b (hlt ((hS b).2 (.inr ⟨_, hb⟩))) (fun h => eki ?_))
          have hj : j = 0 := by
            have := (List.getElem?_eq_some_iff.1 hc).1
            rw [(hw k y hy).1] at this; omega
          subst hj
          simp only [Nat.mul_one, Nat.add_zero] at hb
          exact (hd k i b hb h).symm
    have hs2 : SimM C ⟨s.n, s.env, s.rows.set id (.tree R 1 nl none (xs.set i (.sl nlc ec ys')))⟩ m a w' := {
      defs := hs.defs
      size := hs.size
      os := hs'.os.trans hs.os
      tape := hs'.tape.trans hs.tape
      output := hs'.output.trans hs.output
      hsz := Nat.le_trans hs.hsz hszw
      old := fun k hk hn2 => by
        refine (hold k (by have := hs.hsz; omega) (fun h => ?_)).trans (hs.old k hk hn2)
        by_cases hb : id < C.nb
        · exact hn2 id hb (by rw [← hbor id hb, hmv]; exact hSid k h)
        · have := hnewb id k (by omega) hlid (by rw [hmv]; exact hSid k h); omega
      bor := hbor
      nbl := by have := hs.nbl; simp; omega
      newb := fun j b hj hl hbk => hnewb j b hj (liveAt_set hl hlid) hbk
      dist := fun j1 j2 b l1 l2 b1 b2 => hdist j1 j2 b (liveAt_set l1 hlid) (liveAt_set l2 hlid) b1 b2
      rows := fun j q hq => by
        change (s.rows.set id (.tree R 1 nl none (xs.set i (.sl nlc ec ys'))))[j]? = some q at hq
        show RowOK w' _ m (s.rows.set id (.tree R 1 nl none (xs.set i (.sl nlc ec ys')))).length _ q
        rw [List.length_set]
        rw [List.getElem?_set] at hq
        split at hq
        · rename_i e
          subst e
          simp [hidl] at hq
          subst hq
          rw [hmv]
          exact hnew
        · rename_i e
          exact RowOK.mono (N' := s.rows.length) (m' := m) hG (Nat.le_refl _) (fun _ _ => rfl) (hs.rows j q hq) (fun hdd b hbk => hold b (hs.lt ⟨q, hq, hdd⟩ hbk) (fun h => e (hdist id j b hlid ⟨q, hq, hdd⟩ (by rw [hmv]; exact hSid b h) hbk)))
      env := fun k => by
        show RS w' _ m (s.rows.set id (.tree R 1 nl none (xs.set i (.sl nlc ec ys')))).length _ _
        rw [List.length_set]
        exact (hs.env k).mono hG (Nat.le_refl _) (fun _ _ => rfl) }
    have hres : ∀ (j : Nat) (r : SV) (G' : Bool → Nat → Prop) (N' : Nat), res[j]? = some r → RS w' G' m N' r (us.getD j undef) := by
      intro j r G' N' hj
      have hv := hs'.env j
      change RS w' _ _ _ (look (enumE 0 res) j) (us.getD j undef) at hv
      rw [look_enumE] at hv
      simp only [Nat.zero_le, if_true, Nat.sub_zero, hj, Option.getD_some] at hv
      have hrp : r.isScal = true := by rw [List.all_eq_true] at hrs; exact hrs r (List.mem_of_getElem? hj)
      generalize us.getD j undef = vv at *
      cases hv with
      | pv fr p v hp => exact .pv _ _ _ (hp.scal_any hrp)
      | _ => simp [SV.isScal] at hrp
    refine hK _ _ (next res ys' hrs hRp _ _ ⟨m, hs2.put (blt_lt ht) ?_⟩)
    match res, hus, hres with
    | [], hus, _ =>
      have : us = #[] := Array.eq_empty_of_size_eq_zero (by simpa using hus)
      subst this
      exact .tup _ _ rfl (fun j c v hc => by simp at hc)
    | [r], hus, hres =>
      have h1 : us.size = 1 := by simpa using hus
      have := hres 0 r (Gd C (s.rows.set id (.tree R 1 nl none (xs.set i (.sl nlc ec ys')))) m w') (s.rows.set id (.tree R 1 nl none (xs.set i (.sl nlc ec ys')))).length rfl
      simp only [packS, pack, h1, dif_pos]
      simpa [Array.getD, h1] using this
    | r1 :: r2 :: rs, hus, hres =>
      have h1 : us.size ≠ 1 := by rw [hus]; simp
      simp only [packS, pack, h1, dif_neg, not_false_iff]
      refine .tup _ _ hus (fun j c v hc hv => ?_)
      have := hres j c (Gd C (s.rows.set id (.tree R 1 nl none (xs.set i (.sl nlc ec ys')))) m w') (s.rows.set id (.tree R 1 nl none (xs.set i (.sl nlc ec ys')))).length hc
      have e : us.getD j undef = v := by
        rw [Array.getElem?_eq_some_iff] at hv
        obtain ⟨hlt, e⟩ := hv
        simp [Array.getD, hlt, e]
      rw [e] at this
      exact this
end
end Go.Vl
namespace Go.Vl
theorem TP.weak {w : World} {nl : Option Bool} {e : Nat} {xs : List PV} {v : Value} {S : Nat → Prop} (h : TP w (.sl nl e xs) v S) : TP w (.sl none e xs) v S := by
  cases h with
  | scal _ _ _ hsc => simp [PV.scal] at hsc
  | sl t e nl xs v vals Sf S hown h1 h2 hw hr hd hn hz hS => exact .sl t e none xs v vals Sf S hown (fun h => by cases h) (fun h => by cases h) hw hr hd hn hz hS

/-- Numbers that go up one by one. -/
def markL (k : Int) (n : Nat) : List Int := (List.range n).map (fun (j : Nat) => k + (j : Int))
theorem markL_len (k : Int) (n : Nat) : (markL k n).length = n := by simp [markL]
theorem markL_get (k : Int) (n i : Nat) (h : i < n) : (markL k n).getD i 0 = k + i := by simp [markL, List.getD, h]
theorem mark_set (k : Int) (a : List Int) (i : Nat) (h : i < a.length) : (markL k i ++ a.drop i).set i (k + i) = markL k (i+1) ++ a.drop (i+1) := by
  rw [List.drop_eq_getElem_cons h, List.set_append_right _ _ (by rw [markL_len]; omega), markL_len, Nat.sub_self, List.set_cons_zero]
  unfold markL
  rw [List.range_succ, List.map_append]
  simp
theorem get_intss {L : List (List Int)} {k : Nat} (h : k < L.length) : (L.map ints)[k]? = some (.sl none 1 ((L.getD k []).map intP)) := by
  simp [List.getD, List.getElem?_eq_getElem h]
theorem row1_eqT {el : TypeId} {e : Nat} {nl : Option Bool} {h : Option (Nat × Option Value)} {xs ys : List PV} (hh : xs = ys) : [Row.tree el e nl h xs] = [Row.tree el e nl h ys] := by rw [hh]
end Go.Vl
