/- Part 5 of the texts that the proof of FnExactGetAttr is built on. -/
import Derived.Test.YtcipbgkmjhmddaaVl4
/- Calls by any operation that enters a function: by name, through an interface, of a value. -/
namespace Go.Vl
set_option linter.unusedVariables false
set_option linter.unusedSimpArgs false
open Go.RowKit
section
variable {P : Program} {C : Ctx} {Q : Go.Exit → St → Prop} {s : St}

/-- An operation that enters a function, by what that hands back; 'bs' are the rows that it may write. -/
theorem ow_callA {op : Op} {t : Nat} {ty : TypeId} {pos : String} {af : Array Edge} {gd : Option (Nat × Bool)} {f : FuncId} {va : Array Value} {sa : List SV} {args : List SV} {R : List SV → List Row → Prop} (bs : List Nat)
    {brows : List Row} {m : Nat → MV} {a : Act} {w : World} {K : Act → World → Prop} {Q' : Go.Exit → Act → World → Prop} (hs : SimM C s m a w)
    (hrun : (execOp a.eval ⟨some t, op, ty, pos, af, gd⟩).run P w = .ok (.enter f va) w) (hva : va.size = sa.length)
    (hvs : ∀ (u : Nat) (x : SV), sa[u]? = some x → RS w (Gd C s.rows m w) m s.rows.length x (va.getD u undef)) (ht : Nat.blt t s.n = true)
    (hb1 : bs.map (fun id => (s.rows[id]?).map Row.toArg) = brows.map some) (hb2 : brows.all Row.live = true) (hb3 : bs.map (placeOf bs) = (List.range bs.length).map some)
    (hargs : sa.mapM (argOfB bs s.rows) = some args) (hsat : SatAt P f args brows R)
    (next : ∀ res rows', R res rows' → bs.length ≤ rows'.length ∧ (res.all SV.noTup = true ∧ rows'.all (Row.bdd 0) = true ∧ (rows'.take bs.length).all Row.live = true ∧ rows'.all Row.noGh = true) ∧
      ((sa.any (SV.isKept bs) = false) ∨ (res.all SV.fresh = true ∧ rows'.all Row.fresh = true)) ∧
      ∀ m' a' w', SimM C ⟨s.n, (t, packS (res.map (SV.shift bs s.rows.length))) :: s.env, rowsAfter bs s.rows rows'⟩ m' a' w' → K a' w') :
    Oper.wp P ⟨some t, op, ty, pos, af, gd⟩ a w K Q' := by
  unfold Oper.wp
  rw [hrun, Oper.upon_enter]
  have hbrow : ∀ (q id : Nat), bs[q]? = some id → ∃ r, s.rows[id]? = some r ∧ brows[q]? = some r.toArg ∧ r.live = true := by
    intro q id hq
    have h1 : (bs.map (fun id => (s.rows[id]?).map Row.toArg))[q]? = (brows.map some)[q]? := by rw [hb1]
    simp only [List.getElem?_map, hq, Option.map_some] at h1
    cases hr : s.rows[id]? with
    | none =>
      rw [hr] at h1
      cases hq2 : brows[q]? with
      | none => rw [hq2] at h1; simp at h1
      | some r2 => rw [hq2] at h1; simp at h1
    | some r =>
      rw [hr] at h1
      simp only [Option.map_some] at h1
      cases hq2 : brows[q]? with
      | none => rw [hq2] at h1; simp at h1
      | some r2 =>
        rw [hq2] at h1
        simp at h1
        subst h1
        refine ⟨r, rfl, rfl, ?_⟩
        rw [List.all_eq_true] at hb2
        exact toArg_live _ (hb2 _ (List.mem_of_getElem? hq2))
  have hblen : brows.length = bs.length := by
    have := congrArg List.length hb1
    simpa using this.symm
  have hblive : ∀ (q id : Nat), bs[q]? = some id → liveAt s.rows id := fun q id hq => let ⟨r, h1, _, h3⟩ := hbrow q id hq; ⟨r, h1, h3⟩
  have hplace : ∀ (q id : Nat), bs[q]? = some id → placeOf bs id = some q := by
    intro q id hq
    have h1 : (bs.map (placeOf bs))[q]? = ((List.range bs.length).map some)[q]? := by rw [hb3]
    have hlt : q < bs.length := (List.getElem?_eq_some_iff.1 hq).1
    simp only [List.getElem?_map, hq, Option.map_some, List.getElem?_range hlt, Option.some.injEq] at h1
    exact h1
  let kept : Prop := sa.any (SV.isKept bs) = true
  let bm : Nat → MV := fun q => m ((bs[q]?).getD 0)
  let tk : Nat → Prop := fun b => ∃ (q id : Nat), bs[q]? = some id ∧ (m id).S b
  let C' : Ctx := ⟨w, fun b => Gd C s.rows m w false b ∨ (kept ∧ b < w.heap.size ∧ ¬ tk b), bs.length, bm⟩
  have hlen : args.length = va.size := by rw [mapM_len hargs, hva]
  have htk : ∀ b, tk b → priv s.rows m b := fun b ⟨q, id, h1, h2⟩ => ⟨id, hblive q id h1, h2⟩
  have hbpriv : ∀ b, priv brows bm b → tk b := by
    rintro b ⟨q, ⟨r, hr, hl⟩, hbk⟩
    have hq : q < bs.length := by rw [← hblen]; exact (List.getElem?_eq_some_iff.1 hr).1
    have hq2 : bs[q]? = some bs[q] := List.getElem?_eq_getElem hq
    exact ⟨q, _, hq2, by simpa [bm, hq2] using hbk⟩
  have hkey : ∀ fr b, Gd C s.rows m w fr b → Gd C' brows bm w false b := fun fr b hb =>
    ⟨hb.1, fun hp => hb.2.1 (htk b (hbpriv b hp)), fun _ => .inl (.inl hb.weak), fun e => by cases e⟩
  have hs0 : SimM C' ⟨va.size, enumE 0 args, brows⟩ bm ⟨va, []⟩ C'.w0 := {
    defs := rfl
    size := rfl
    os := rfl
    tape := rfl
    output := rfl
    hsz := Nat.le_refl _
    old := fun _ _ _ => rfl
    bor := fun _ _ => rfl
    nbl := by show bs.length ≤ brows.length; omega
    newb := fun id b hge hl _ => by
      obtain ⟨r, hr, _⟩ := hl
      have h1 : id < brows.length := (List.getElem?_eq_some_iff.1 hr).1
      change bs.length ≤ id at hge
      omega
    dist := fun i j b hi hj hbi hbj => by
      obtain ⟨r, hr, _⟩ := hi
      obtain ⟨r2, hr2, _⟩ := hj
      have hi1 : i < bs.length := by rw [← hblen]; exact (List.getElem?_eq_some_iff.1 hr).1
      have hj1 : j < bs.length := by rw [← hblen]; exact (List.getElem?_eq_some_iff.1 hr2).1
      have hi2 : bs[i]? = some bs[i] := List.getElem?_eq_getElem hi1
      have hj2 : bs[j]? = some bs[j] := List.getElem?_eq_getElem hj1
      simp only [bm, hi2, hj2, Option.getD_some] at hbi hbj
      have := hs.dist _ _ b (hblive i _ hi2) (hblive j _ hj2) hbi hbj
      have p1 := hplace i _ hi2
      have p2 := hplace j _ hj2
      rw [this, p2] at p1
      cases p1
      rfl
    rows := fun q r hr => by
      have hq : q < bs.length := by rw [← hblen]; exact (List.getElem?_eq_some_iff.1 hr).1
      have hq2 : bs[q]? = some bs[q] := List.getElem?_eq_getElem hq
      obtain ⟨r0, h1, h2, h3⟩ := hbrow q _ hq2
      change brows[q]? = some r at hr
      rw [hr] at h2
      cases h2
      have : bm q = m bs[q] := by simp [bm, hq2]
      rw [this]
      exact toArg_ok hkey (hs.rows _ _ h1)
    env := fun u => by
      show RS w _ _ _ (look (enumE 0 args) u) _
      rw [look_enumE]
      simp only [Nat.zero_le, if_true, Nat.sub_zero]
      rcases Nat.lt_or_ge u va.size with hu | hu
      · have hx : sa[u]? = some (sa[u]'(by omega)) := List.getElem?_eq_getElem (by omega)
        obtain ⟨y, hy, hg⟩ := mapM_get hargs u _ hx
        rw [hy]
        simp only [Option.getD_some]
        show RS w _ _ _ y (va.getD u undef)
        have hv := hvs u _ hx
        generalize hgx : sa[u]'(by omega) = gx at *
        generalize va.getD u undef = v at *
        cases hv with
        | pv fr p v hp =>
          simp only [argOfB, Option.some.injEq] at hg
          subst hg
          cases hsc : p.scal with
          | true => exact .pv _ _ _ (hp.scal_any hsc)
          | false => exact .pv _ _ _ (hp.mono fun b hb => ⟨hkey fr b hb, rfl⟩)
        | ref id hid =>
          simp only [argOfB] at hg
          split at hg
          · rename_i q hq
            simp at hg
            subst hg
            have hq2 := placeOf_some hq
            have : m id = bm q := by simp [bm, hq2]
            rw [this]
            exact .ref q (by show q < brows.length; rw [hblen]; exact (List.getElem?_eq_some_iff.1 hq2).1)
          · rename_i hq
            split at hg
            · rename_i t' e nl fr ys hrow
              simp at hg
              subst hg
              refine .pv _ _ _ (RP.of_row (hs.rows id _ hrow) (fun b hb => hkey _ b hb) (fun b hb => ?_))
              have hlt := hs.lt ⟨_, hrow, rfl⟩ hb
              have hk : kept := by
                show sa.any (SV.isKept bs) = true
                rw [List.any_eq_true]
                exact ⟨.ref id, List.mem_of_getElem? hx, by simp [SV.isKept, hq]⟩
              have hnt : ¬ tk b := by
                rintro ⟨q, id', h1, h2⟩
                have := hs.dist id id' b ⟨_, hrow, rfl⟩ (hblive q id' h1) hb h2
                subst this
                exact placeOf_none hq (List.mem_of_getElem? h1)
              exact ⟨hlt, fun hp => hnt (hbpriv b hp), fun _ => .inl (.inr ⟨hk, hlt, hnt⟩), fun e => by cases e⟩
            · rename_i t' e nl ys hrow
              simp at hg
              subst hg
              refine .pv _ _ _ (RP.of_tree (hs.rows id _ hrow) (fun b hb => ?_))
              have hlt := hs.lt ⟨_, hrow, rfl⟩ hb
              have hk : kept := by
                show sa.any (SV.isKept bs) = true
                rw [List.any_eq_true]
                exact ⟨.ref id, List.mem_of_getElem? hx, by simp [SV.isKept, hq]⟩
              have hnt : ¬ tk b := by
                rintro ⟨q, id', h1, h2⟩
                have := hs.dist id id' b ⟨_, hrow, rfl⟩ (hblive q id' h1) hb h2
                subst this
                exact placeOf_none hq (List.mem_of_getElem? h1)
              exact ⟨hlt, fun hp => hnt (hbpriv b hp), fun _ => .inl (.inr ⟨hk, hlt, hnt⟩), fun e => by cases e⟩
            · simp at hg
        | ptr id e i o b hid hbk =>
          simp only [argOfB] at hg
          split at hg
          · rename_i q hq
            simp at hg
            subst hg
            have hq2 := placeOf_some hq
            have : m id = bm q := by simp [bm, hq2]
            exact .ptr q e i o b (by show q < brows.length; rw [hblen]; exact (List.getElem?_eq_some_iff.1 hq2).1) (by rw [← this]; exact hbk)
          · simp at hg
        | ag vs us hl9 h9 h1 =>
          simp only [argOfB] at hg
          split at hg
          · rename_i ps hps
            simp at hg
            subst hg
            obtain ⟨g1, g2⟩ := argCells_get hps
            have hkey2 : ∀ (j : Nat) (p : PV) (u : Value), ps[j]? = some p → us[j]? = some u → RP w (Gd C' brows bm w false) p u ∧ p.isAgg = false := by
              intro j p u hp hu
              obtain ⟨c, hc, hcp⟩ := g2 j p hp
              refine argCell_ok hs (h9 j c u hc hu) hcp (h1 j u hu) (fun fr b hb => hkey fr b hb) (fun id b e hq hlv hb => ?_)
              subst e
              have hlt := hs.lt hlv hb
              have hk : kept := by
                show sa.any (SV.isKept bs) = true
                rw [List.any_eq_true]
                refine ⟨.ag vs, List.mem_of_getElem? hx, ?_⟩
                show vs.any (SV.isKept1 bs) = true
                rw [List.any_eq_true]
                exact ⟨.ref id, List.mem_of_getElem? hc, by simp [SV.isKept1, hq]⟩
              have hnt : ¬ tk b := by
                rintro ⟨q, id', h1, h2⟩
                have := hs.dist id id' b hlv (hblive q id' h1) hb h2
                subst this
                exact placeOf_none hq (List.mem_of_getElem? h1)
              exact ⟨hlt, fun hp => hnt (hbpriv b hp), fun _ => .inl (.inr ⟨hk, hlt, hnt⟩), fun e => by cases e⟩
            have hul : us.size = ps.length := by rw [hl9, g1]
            refine .pv _ _ _ (.agg ps us hul (fun j c hc => ?_) (fun j c u hc hu => (hkey2 j c u hc hu).1))
            have hj : j < us.size := by rw [hul]; exact (List.getElem?_eq_some_iff.1 hc).1
            exact (hkey2 j c _ hc (Array.getElem?_eq_getElem hj)).2
          · cases hg
        | _ => simp [argOfB] at hg
      · rw [List.getElem?_eq_none (by omega)]
        exact .any _ }
  refine (hsat C' bm va hblen.symm (fun b hb => hb.elim (fun h => h.1) (fun h => h.2.1)) (by simp [hlen]) hs0).mono ?_
  rintro e w' ⟨us, res, rows', m2, rfl, hus, hs', hR⟩
  obtain ⟨hbl, ⟨hnt, hbdd, hlv, hng⟩, hfr, hnx⟩ := next res rows' hR
  have hsz : w.heap.size ≤ w'.heap.size := hs'.hsz
  have hold : ∀ k, k < w.heap.size → ¬ tk k → w'.heap[k]? = w.heap[k]? := fun k hk hn => hs'.old k hk (fun q hq hbk => by
    have hq2 : bs[q]? = some bs[q] := List.getElem?_eq_getElem hq
    exact hn ⟨q, _, hq2, by simpa [C', bm, hq2] using hbk⟩)
  let N := s.rows.length
  let m3 : Nat → MV := fun j => if j < N then m j else m2 (j - N + bs.length)
  let nr := rowsAfter bs s.rows rows'
  have hm3 : ∀ j, j < N → m3 j = m j := fun j hj => by simp [m3, hj]
  have hm2b : ∀ (q id : Nat), bs[q]? = some id → m2 q = m id := by
    intro q id hq
    have := hs'.bor q (List.getElem?_eq_some_iff.1 hq).1
    rw [this]
    show bm q = m id
    simp [bm, hq]
  have hnrlen : nr.length = N + (rows'.length - bs.length) := by simp [nr, rowsAfter, N]
  have hnr1 : ∀ j, j < N → ∃ r0, s.rows[j]? = some r0 ∧ ((∃ q : Nat, bs[q]? = some j ∧ ∃ r', rows'[q]? = some r' ∧ nr[j]? = some r') ∨ (j ∉ bs ∧ nr[j]? = some r0)) := by
    intro j hj
    have h0 : s.rows[j]? = some s.rows[j] := List.getElem?_eq_getElem hj
    refine ⟨_, h0, ?_⟩
    have h1 : nr[j]? = some (match placeOf bs j with | some q => (rows'[q]?).getD .dead | none => s.rows[j]) := by
      simp only [nr, rowsAfter]
      rw [List.getElem?_append_left (by simp; exact hj)]
      simp [List.getElem?_mapIdx, h0]
      try (cases placeOf bs j <;> rfl)
    cases hp : placeOf bs j with
    | none => right; rw [hp] at h1; exact ⟨placeOf_none hp, h1⟩
    | some q =>
      left
      rw [hp] at h1
      have hq := placeOf_some hp
      have hq1 : q < rows'.length := Nat.lt_of_lt_of_le (List.getElem?_eq_some_iff.1 hq).1 hbl
      have hq2 : rows'[q]? = some rows'[q] := List.getElem?_eq_getElem hq1
      refine ⟨q, hq, _, hq2, ?_⟩
      rw [h1]
      show some ((rows'[q]?).getD Row.dead) = _
      rw [hq2]
      rfl
  have hnr2 : ∀ j, N ≤ j → nr[j]? = rows'[j - N + bs.length]? := by
    intro j hj
    simp only [nr, rowsAfter]
    rw [List.getElem?_append_right (by simp; exact hj)]
    simp only [List.length_mapIdx, List.getElem?_drop]
    congr 1
    omega
  have hnlive : ∀ j, j < N → liveAt nr j → liveAt s.rows j := by
    intro j hj ⟨r, hr, hl⟩
    obtain ⟨r0, h0, h | h⟩ := hnr1 j hj
    · obtain ⟨q, hq, _⟩ := h
      exact hblive q j hq
    · rw [h.2] at hr
      cases hr
      exact ⟨r, h0, hl⟩
  have hnew : ∀ j b, N ≤ j → liveAt nr j → (m3 j).S b → liveAt rows' (j - N + bs.length) ∧ (m2 (j - N + bs.length)).S b ∧ w.heap.size ≤ b := by
    intro j b hj ⟨r, hr, hl⟩ hbk
    rw [hnr2 j hj] at hr
    have e1 : m3 j = m2 (j - N + bs.length) := by simp [m3, Nat.not_lt.2 hj]
    rw [e1] at hbk
    exact ⟨⟨r, hr, hl⟩, hbk, hs'.newb _ b (by show bs.length ≤ _; omega) ⟨r, hr, hl⟩ hbk⟩
  have hG : ∀ f b, Gd C s.rows m w f b → Gd C nr m3 w' f b ∧ w'.heap[b]? = w.heap[b]? := by
    refine Gd.step tk hsz hold htk (fun b hlt ⟨j, hl, hbk⟩ => ?_)
    rcases Nat.lt_or_ge j N with hj | hj
    · rw [hm3 j hj] at hbk
      exact ⟨j, hnlive j hj hl, hbk⟩
    · have := (hnew j b hj hl hbk).2.2
      omega
  have hG2 : ∀ fl b, (fl = true ∨ ¬ kept) → Gd C' rows' m2 w' fl b → Gd C nr m3 w' fl b := by
    intro fl b hk hb
    have hnp : ¬ priv nr m3 b := by
      rintro ⟨j, hl, hbk⟩
      rcases Nat.lt_or_ge j N with hj | hj
      · obtain ⟨r0, h0, h | h⟩ := hnr1 j hj
        · obtain ⟨q, hq, r', hr', hn⟩ := h
          rw [hm3 j hj, ← hm2b q j hq] at hbk
          refine hb.2.1 ⟨q, ⟨r', hr', ?_⟩, hbk⟩
          rw [List.all_eq_true] at hlv
          refine hlv r' (List.mem_of_getElem? (i := q) ?_)
          rw [List.getElem?_take, if_pos (List.getElem?_eq_some_iff.1 hq).1]
          exact hr'
        · rw [hm3 j hj] at hbk
          have hpl : priv s.rows m b := ⟨j, hnlive j hj hl, hbk⟩
          have hlt := hs.lt (hnlive j hj hl) hbk
          cases fl with
          | true => have := (hb.2.2.2 rfl).1; change w.heap.size ≤ b at this; omega
          | false =>
            rcases hb.2.2.1 rfl with hA | hA
            · rcases hA with hA | hA
              · exact hA.2.1 hpl
              · rcases hk with hk | hk
                · cases hk
                · exact hk hA.1
            · change w.heap.size ≤ b at hA; omega
      · obtain ⟨h1, h2, _⟩ := hnew j b hj hl hbk
        exact hb.2.1 ⟨_, h1, h2⟩
    refine ⟨hb.1, hnp, fun e => ?_, fun e => ?_⟩
    · rcases hb.2.2.1 e with hA | hA
      · rcases hA with hA | hA
        · exact hA.2.2.1 rfl
        · rcases hk with hk | hk
          · rw [hk] at e; cases e
          · exact (hk hA.1).elim
      · exact .inr (Nat.le_trans hs.hsz hA)
    · have h4 := hb.2.2.2 e
      exact ⟨Nat.le_trans hs.hsz h4.1, h4.2⟩
  have hrowC : ∀ (q : Nat) (r : Row), rows'[q]? = some r → RowOK w' (Gd C nr m3 w') m3 nr.length (m2 q) r := by
    intro q r hr
    have h0 := hs'.rows q r hr
    have hfq : kept → r.fresh = true := by
      intro hk
      rcases hfr with h | h
      · have hk' : sa.any (SV.isKept bs) = true := hk
        rw [h] at hk'; cases hk'
      · have := h.2
        rw [List.all_eq_true] at this
        exact this r (List.mem_of_getElem? hr)
    have hbq : r.bdd 0 = true := by rw [List.all_eq_true] at hbdd; exact hbdd r (List.mem_of_getElem? hr)
    have hgq : r.noGh = true := by rw [List.all_eq_true] at hng; exact hng r (List.mem_of_getElem? hr)
    have hor : ∀ fl : Bool, (kept → fl = true) → (fl = true ∨ ¬ kept) := fun fl h => by
      by_cases hk : kept
      · exact .inl (h hk)
      · exact .inr hk
    change RowOK w' (Gd C' rows' m2 w') m2 rows'.length (m2 q) r at h0
    generalize m2 q = v at *
    cases h0 with
    | dead v => exact .dead v
    | own v t e nl fr xs vs hown h1 h2 hw hr' =>
      refine .own v t e nl fr xs vs hown h1 h2 hw (fun i x j c hx hc => ?_)
      obtain ⟨u, hu, hp⟩ := hr' i x j c hx hc
      exact ⟨u, hu, hp.mono fun b hb => ⟨hG2 fr b (hor fr hfq) hb, rfl⟩⟩
    | tree mv t e nl h xs vals Sf hown h1 h2 hw hr9 hd hn hz hS hkn => exact .tree _ t e nl h xs vals Sf hown h1 h2 hw hr9 hd hn hz hS hkn
    | mp b g es clock hbk hm' => exact .mp b g es clock hbk hm'
    | gh mv us cs hl h9 => cases hgq
    | var b t cs cur hb hl hr' h1 =>
      refine .var b t cs cur hb hl (fun j c u hc hu => ?_) h1
      have hv := hr' j c u hc hu
      have hcb : c.bdd 0 = true := by
        simp only [Row.bdd, List.all_eq_true] at hbq
        exact hbq c (List.mem_of_getElem? hc)
      have hcf : kept → c.fresh = true := by
        intro hk
        have := hfq hk
        simp only [Row.fresh, List.all_eq_true] at this
        exact this c (List.mem_of_getElem? hc)
      cases hv with
      | any v => exact .any _
      | val u => exact .val _
      | und => exact .und
      | pv fr p v hp =>
        cases hsc : p.scal with
        | true => exact .pv _ _ _ (hp.scal_any hsc)
        | false => exact .pv _ _ _ (hp.mono fun b hb => ⟨hG2 fr b (hor fr fun hk => by have := hcf hk; simpa [SV.fresh, hsc] using this) hb, rfl⟩)
      | ref i hi => simp [SV.bdd] at hcb
      | ptr i e' k o b' hi hbk => simp [SV.bdd] at hcb
      | adr fr cs' a' f' hsp hg h1' hc' hr2 =>
        by_cases hk : kept
        · have := hcf hk; simp [SV.fresh] at this
        · exact .adr fr cs' a' f' hsp (fun hne => hG2 fr _ (.inr hk) (hg hne)) h1' hc' (fun j c hj => (hr2 j c hj).mono fun b hb => ⟨hG2 fr b (.inr hk) hb, rfl⟩)
      | tup vs us' hl' h' => simp [SV.bdd] at hcb
      | sub i e' l h c' _ hid hs9 => simp [SV.bdd] at hcb
      | ag vs us' hl' h' h1' =>
        refine .ag vs us' hl' (fun q c u hc hu => ?_) h1'
        have hcb1 : c.bdd1 0 = true := by simp only [SV.bdd, List.all_eq_true] at hcb; exact hcb c (List.mem_of_getElem? hc)
        have hcf1 : kept → c.fresh1 = true := fun hk => by have := hcf hk; simp only [SV.fresh, List.all_eq_true] at this; exact this c (List.mem_of_getElem? hc)
        have hv := h' q c u hc hu
        cases hv with
        | any v => exact .any _
        | val u => exact .val _
        | und => exact .und
        | pv fr p v hp =>
          cases hsc : p.scal with
          | true => exact .pv _ _ _ (hp.scal_any hsc)
          | false => exact .pv _ _ _ (hp.mono fun b hb => ⟨hG2 fr b (hor fr fun hk => by have := hcf1 hk; simpa [SV.fresh1, hsc] using this) hb, rfl⟩)
        | ref i hi => simp [SV.bdd1] at hcb1
        | ptr i e' k o b' hi hbk => simp [SV.bdd1] at hcb1
        | adr fr cs' a' f' hsp hg h1' hc' hr2 =>
          by_cases hk : kept
          · have := hcf1 hk; simp [SV.fresh1] at this
          · exact .adr fr cs' a' f' hsp (fun hne => hG2 fr _ (.inr hk) (hg hne)) h1' hc' (fun j c hj => (hr2 j c hj).mono fun b hb => ⟨hG2 fr b (.inr hk) hb, rfl⟩)
        | tup vs us' hl' h' => simp [SV.bdd1] at hcb1
        | ag vs us' hl' h' h1' => simp [SV.bdd1] at hcb1
        | sub i e' l h c' _ hid hs9 => simp [SV.bdd1] at hcb1
  have hs2 : SimM C ⟨s.n, s.env, nr⟩ m3 a w' := {
    defs := hs.defs
    size := hs.size
    os := hs'.os.trans hs.os
    tape := hs'.tape.trans hs.tape
    output := hs'.output.trans hs.output
    hsz := Nat.le_trans hs.hsz hsz
    old := fun k hk hn => by
      refine (hold k (by have := hs.hsz; omega) ?_).trans (hs.old k hk hn)
      rintro ⟨q, id, h1, h2⟩
      by_cases hid : id < C.nb
      · exact hn id hid (by rw [← hs.bor id hid]; exact h2)
      · have := hs.newb id k (by omega) (hblive q id h1) h2; omega
    bor := fun id hid => by rw [hm3 id (by have := hs.nbl; show id < N; omega)]; exact hs.bor id hid
    nbl := by have := hs.nbl; show C.nb ≤ nr.length; rw [hnrlen]; show C.nb ≤ s.rows.length + _; omega
    newb := fun j b hj hl hbk => by
      rcases Nat.lt_or_ge j N with h | h
      · rw [hm3 j h] at hbk; exact hs.newb j b hj (hnlive j h hl) hbk
      · have := (hnew j b h hl hbk).2.2; have := hs.hsz; omega
    dist := fun i j b hi hj hbi hbj => by
      rcases Nat.lt_or_ge i N with h1 | h1 <;> rcases Nat.lt_or_ge j N with h2 | h2
      · rw [hm3 i h1] at hbi; rw [hm3 j h2] at hbj
        exact hs.dist i j b (hnlive i h1 hi) (hnlive j h2 hj) hbi hbj
      · rw [hm3 i h1] at hbi
        have e1 := hs.lt (hnlive i h1 hi) hbi
        have e2 := (hnew j b h2 hj hbj).2.2
        omega
      · rw [hm3 j h2] at hbj
        have e1 := hs.lt (hnlive j h2 hj) hbj
        have e2 := (hnew i b h1 hi hbi).2.2
        omega
      · obtain ⟨l1, b1, _⟩ := hnew i b h1 hi hbi
        obtain ⟨l2, b2, _⟩ := hnew j b h2 hj hbj
        have := hs'.dist _ _ b l1 l2 b1 b2
        omega
    rows := fun j r hr => by
      change nr[j]? = some r at hr
      show RowOK w' (Gd C nr m3 w') m3 nr.length (m3 j) r
      rcases Nat.lt_or_ge j N with h | h
      · rw [hm3 j h]
        obtain ⟨r0, h0, hh | hh⟩ := hnr1 j h
        · obtain ⟨q, hq, r', hr', hn⟩ := hh
          rw [hn] at hr
          cases hr
          rw [← hm2b q j hq]
          exact hrowC q r hr'
        · rw [hh.2] at hr
          cases hr
          refine RowOK.mono hG (by rw [hnrlen]; exact Nat.le_add_right _ _) (fun id hid => hm3 id hid) (hs.rows j r h0) (fun hl b hb => hold b (hs.lt ⟨r, h0, hl⟩ hb) ?_)
          rintro ⟨q, id, h1, h2⟩
          have := hs.dist j id b ⟨r, h0, hl⟩ (hblive q id h1) hb h2
          subst this
          exact hh.1 (List.mem_of_getElem? h1)
      · rw [hnr2 j h] at hr
        have e1 : m3 j = m2 (j - N + bs.length) := by simp [m3, Nat.not_lt.2 h]
        rw [e1]
        exact hrowC _ r hr
    env := fun u => by
      refine (hs.env u).mono hG ?_ (fun id hid => hm3 id hid)
      show s.rows.length ≤ nr.length
      rw [hnrlen]
      exact Nat.le_add_right _ _ }
  have hres : ∀ (j : Nat) (r : SV), res[j]? = some r → RS w' (Gd C nr m3 w') m3 nr.length (r.shift bs N) (us.getD j undef) := by
    intro j r hj
    have hv := hs'.env j
    change RS w' _ _ _ (look (enumE 0 res) j) (us.getD j undef) at hv
    rw [look_enumE] at hv
    simp only [Nat.zero_le, if_true, Nat.sub_zero, hj, Option.getD_some] at hv
    have hrf : kept → r.fresh = true := by
      intro hk
      rcases hfr with h | h
      · have hk' : sa.any (SV.isKept bs) = true := hk
        rw [h] at hk'; cases hk'
      · have := h.1
        rw [List.all_eq_true] at this
        exact this r (List.mem_of_getElem? hj)
    have hrt : r.noTup = true := by rw [List.all_eq_true] at hnt; exact hnt r (List.mem_of_getElem? hj)
    have hidx : ∀ i, i < rows'.length → ∃ i', i' < nr.length ∧ m3 i' = m2 i ∧ (match bs[i]? with | some b => b | none => i - bs.length + N) = i' := by
      intro i hi
      cases hbi : bs[i]? with
      | some b =>
        have hbN : b < N := by
          obtain ⟨r, hr, _⟩ := hblive i b hbi
          exact (List.getElem?_eq_some_iff.1 hr).1
        exact ⟨b, by rw [hnrlen]; omega, by rw [hm3 b hbN]; exact (hm2b i b hbi).symm, rfl⟩
      | none =>
        have hge : bs.length ≤ i := by simpa using hbi
        refine ⟨i - bs.length + N, by rw [hnrlen]; omega, ?_, rfl⟩
        simp only [m3]
        rw [if_neg (by omega)]
        congr 1
        omega
    generalize us.getD j undef = v at *
    cases hv with
    | any v => exact .any _
    | val u => exact .any _
    | und => exact .any _
    | pv fr p v hp =>
      simp only [SV.shift]
      cases hsc : p.scal with
      | true => exact .pv _ _ _ (hp.scal_any hsc)
      | false =>
        refine .pv _ _ _ (hp.mono fun b hb => ⟨hG2 fr b ?_ hb, rfl⟩)
        by_cases hk : kept
        · left; have := hrf hk; simpa [SV.fresh, hsc] using this
        · exact .inr hk
    | ref i hi =>
      obtain ⟨i', h1, h2, h3⟩ := hidx i hi
      have e : SV.shift bs N (.ref i) = .ref i' := by
        simp only [SV.shift]
        cases hbi : bs[i]? <;> rw [hbi] at h3 <;> simp_all
      rw [e, ← h2]
      exact .ref i' h1
    | ptr i e k o b hi hbk =>
      obtain ⟨i', h1, h2, h3⟩ := hidx i hi
      have e : SV.shift bs N (.ptr i e k o) = .ptr i' e k o := by
        simp only [SV.shift]
        cases hbi : bs[i]? <;> rw [hbi] at h3 <;> simp_all
      rw [e]
      exact .ptr i' _ _ _ b h1 (by rw [h2]; exact hbk)
    | adr fr cs' a' f' hsp hg h1' hc' hr2 => exact .any _
    | tup vs us' hl' h' => simp [SV.noTup] at hrt
    | sub i e' l h c' _ hid hs9 => exact .any _
    | ag vs us' hl' h' h1' =>
      refine .ag _ us' (by simpa using hl') (fun q c u hc hu => ?_) h1'
      simp only [List.getElem?_map, Option.map_eq_some_iff] at hc
      obtain ⟨c', hc', rfl⟩ := hc
      have hcf1 : kept → c'.fresh1 = true := fun hk => by have := hrf hk; simp only [SV.fresh, List.all_eq_true] at this; exact this c' (List.mem_of_getElem? hc')
      have hv := h' q c' u hc' hu
      cases hv with
      | pv fr p v hp =>
        simp only [SV.shift1]
        cases hsc : p.scal with
        | true => exact .pv _ _ _ (hp.scal_any hsc)
        | false =>
          refine .pv _ _ _ (hp.mono fun b hb => ⟨hG2 fr b ?_ hb, rfl⟩)
          by_cases hk : kept
          · left; have := hcf1 hk; simpa [SV.fresh1, hsc] using this
          · exact .inr hk
      | ref i hi =>
        obtain ⟨i', h1, h2, h3⟩ := hidx i hi
        have e : SV.shift1 bs N (.ref i) = .ref i' := by
          simp only [SV.shift1]
          cases hbi : bs[i]? <;> rw [hbi] at h3 <;> simp_all
        rw [e, ← h2]
        exact .ref i' h1
      | _ => exact .any _
  have hput := hs2.put (blt_lt ht) (sv := packS (res.map (SV.shift bs N))) (v := pack us) (by
    match res, hus, hres with
    | [], hus, _ =>
      have : us = #[] := Array.eq_empty_of_size_eq_zero (by simpa using hus)
      subst this
      exact .tup _ _ rfl (fun j c v hc => by simp at hc)
    | [r], hus, hres =>
      have h1 : us.size = 1 := by simpa using hus
      have := hres 0 r rfl
      simp only [packS, pack, h1, dif_pos, List.map_cons, List.map_nil]
      simpa [Array.getD, h1] using this
    | r1 :: r2 :: rs, hus, hres =>
      have h1 : us.size ≠ 1 := by rw [hus]; simp
      simp only [packS, pack, h1, dif_neg, not_false_iff, List.map_cons]
      refine .tup _ _ (by rw [hus]; simp) (fun j c v hc hv => ?_)
      have hc2 : ((r1 :: r2 :: rs).map (SV.shift bs N))[j]? = some c := by simpa using hc
      simp only [List.getElem?_map, Option.map_eq_some_iff] at hc2
      obtain ⟨c', hc', rfl⟩ := hc2
      have := hres j c' hc'
      have e : us.getD j undef = v := by
        rw [Array.getElem?_eq_some_iff] at hv
        obtain ⟨hlt, e⟩ := hv
        simp [Array.getD, hlt, e]
      rw [e] at this
      exact this)
  exact hnx _ _ _ hput

end
end Go.Vl

namespace Go.Vl
open Go.RowKit
section
variable {P : Program} {C : Ctx} {Q : Go.Exit → St → Prop} {s : St} {ops : Array Oper} {rest : List Oper} {t : Nat} {ty : TypeId} {pos : String} {af : Array Edge}

/-- Which function a method is, for a dynamic type; and what it is given. -/
def MethAt (P : Program) (T : TypeId) (name : String) (p : PV) (F : FuncId) (q : PV) : Prop :=
  ∀ (w : World) (G : Nat → Prop) (v : Value), RP w G p v → ∃ r, (Go.method (P.types.size + Made.depth) T v name).run P w = .ok (F, r) w ∧ RP w G q r

theorem run_invoke {F : FuncId} {fn : Func} {a : Act} {w : World} {recv : Operand} {name : String} {T : TypeId} {v r : Value} {xs : Array Operand} {Ts : Array TypeId} {gd : Option (Nat × Bool)} (hf : P.funcs[F]? = some fn) (hnm : (fn.name == "runtime.NumGoroutine") = false)
    (hbd : fn.body.isNone = false) (hv : a.eval recv = .iface T v) (hm : (Go.method (P.types.size + Made.depth) T v name).run P w = .ok (F, r) w) (dst : Option Tmp) :
    (execOp a.eval ⟨dst, .call ⟨.invoke recv name, xs, Ts⟩, ty, pos, af, gd⟩).run P w = .ok (.enter F (#[r] ++ xs.map a.eval)) w := by
  have h1 : ¬ (fn.name = "runtime.NumGoroutine") := by simpa using hnm
  have h2 : ¬ (fn.body = none) := by intro e; rw [e] at hbd; cases hbd
  have hc : ∀ args, (callFunc F args).run P w = .ok (.enter F args) w := fun args => by simp [callFunc, hf, h1, h2]
  have hcm : ∀ args, (callMethod (.iface T v) name args).run P w = .ok (.enter F (#[r] ++ args)) w := fun args => by
    unfold callMethod
    simp only [Sem.run_bind, run_program, Result.andThen_ok, hm, hc]
  have h3 : (#[Value.iface T v] ++ xs.map a.eval).extract 1 (#[Value.iface T v] ++ xs.map a.eval).size = xs.map a.eval := by
    apply Array.ext_getElem?
    intro i
    rw [Array.getElem?_extract]
    split
    · rw [Array.getElem?_append_right (by simp)]
      congr 1
      simp
    · rename_i hh
      rw [Array.getElem?_eq_none]
      simp at hh ⊢
      omega
  have h4 : (#[Value.iface T v] ++ xs.map a.eval)[0]? = some (.iface T v) := by
    rw [Array.getElem?_append_left (by simp)]; rfl
  have hi : (invoke (.fn (.method name) #[]) (#[Value.iface T v] ++ xs.map a.eval)).run P w = .ok (.enter F (#[r] ++ xs.map a.eval)) w := by
    unfold invoke
    simp only [h4, h3]
    exact hcm _
  have hres : (resolve a.eval ⟨.invoke recv name, xs, Ts⟩ ty).run P w = .ok { target := .fn (.method name) #[], args := #[Value.iface T v] ++ xs.map a.eval } w := by
    unfold resolve
    simp only [hv]
    rfl
  simp only [execOp, Sem.run_bind, hres, Result.andThen_ok, hi]

theorem vo_invoke {recv : Operand} {name : String} {xs : Array Operand} {Ts : Array TypeId} {T : TypeId} {F : FuncId} {fn : Func} {p q : PV} {fr : Bool} {args : List SV} {R : List SV → List Row → Prop} (bs : List Nat) {brows : List Row}
    (hr : getO s.env recv = .pv fr (.ifc T p)) (hm : MethAt P T name p F q) (hf : P.funcs[F]? = some fn) (hnm : (fn.name == "runtime.NumGoroutine") = false) (hbd : fn.body.isNone = false) (ht : Nat.blt t s.n = true)
    (hb1 : bs.map (fun id => (s.rows[id]?).map Row.toArg) = brows.map some) (hb2 : brows.all Row.live = true) (hb3 : bs.map (placeOf bs) = (List.range bs.length).map some)
    (hargs : (.pv fr q :: xs.toList.map (getO s.env)).mapM (argOfB bs s.rows) = some args) (hsat : SatAt P F args brows R)
    (next : ∀ res rows', R res rows' → bs.length ≤ rows'.length ∧ (res.all SV.noTup = true ∧ rows'.all (Row.bdd 0) = true ∧ (rows'.take bs.length).all Row.live = true ∧ rows'.all Row.noGh = true) ∧
      (((.pv fr q :: xs.toList.map (getO s.env)).any (SV.isKept bs) = false) ∨ (res.all SV.fresh = true ∧ rows'.all Row.fresh = true)) ∧
      VO P C ops rest Q ⟨s.n, (t, packS (res.map (SV.shift bs s.rows.length))) :: s.env, rowsAfter bs s.rows rows'⟩) :
    VO P C ops (⟨some t, .call ⟨.invoke recv name, xs, Ts⟩, ty, pos, af, none⟩ :: rest) Q s := by
  intro a w ⟨m, hs⟩
  refine wpList_plain rfl fun K hK => ?_
  have hv := hs.get recv
  rw [hr] at hv
  have hv := hv.pv_inv
  obtain ⟨v, hva, hp⟩ : ∃ v, a.eval recv = .iface T v ∧ RP w (Gd C s.rows m w fr) p v := by
    generalize a.eval recv = x at hv
    cases hv with
    | ifc _ _ v h => exact ⟨v, rfl, h⟩
  obtain ⟨r, hrun, hq⟩ := hm w _ v hp
  refine ow_callA (sa := .pv fr q :: xs.toList.map (getO s.env)) bs hs (run_invoke hf hnm hbd hva hrun (some t)) (by simp; omega) (fun u x hu => ?_) ht hb1 hb2 hb3 hargs hsat
    (fun res rows' hR => let ⟨h1, h2, h3, h4⟩ := next res rows' hR; ⟨h1, h2, h3, fun m' a' w' hs' => hK _ _ (h4 _ _ ⟨m', hs'⟩)⟩)
  cases u with
  | zero =>
    simp at hu; subst hu
    have e : (#[r] ++ xs.map a.eval).getD 0 undef = r := by
      rw [Array.getD_eq_getD_getElem?, Array.getElem?_append_left (by simp)]; rfl
    rw [e]
    exact .pv fr q r hq
  | succ u =>
    simp only [List.getElem?_cons_succ, List.getElem?_map, Option.map_eq_some_iff] at hu
    obtain ⟨o, ho, rfl⟩ := hu
    have ho' : xs[u]? = some o := by simpa using ho
    have hul : u < xs.size := (Array.getElem?_eq_some_iff.1 ho').1
    have e : (#[r] ++ xs.map a.eval).getD (u+1) undef = a.eval o := by
      have e1 : (#[r] ++ xs.map a.eval)[u+1]? = some (a.eval o) := by
        rw [Array.getElem?_append_right (by simp)]
        simp [ho']
      rw [Array.getD_eq_getD_getElem?, e1]; rfl
    rw [e]
    exact hs.get o

/-- A value goes into an interface. -/
theorem lt_makeIface {x : Operand} {T : TypeId} {f : Bool} {p : PV} {D : TypeDesc} (hx : getO s.env x = .pv f p) (hT : P.underlying T = some D) (hD : (match D with | .interface _ => true | _ => false) = false) :
    Lt P C s ⟨some t, .makeInterface T x, ty, pos, af, none⟩ (.pv f (.ifc T p)) := by
  intro m a w hs
  have hv := hs.get x
  rw [hx] at hv
  refine ⟨.iface T (a.eval x), fun w' hw' => ?_, .pv _ _ _ (.ifc _ _ _ hv.pv_inv)⟩
  cases D <;> simp_all [execOp, Instr.makeInterface, run_underlying hT]

theorem vo_makeIface {x : Operand} {T : TypeId} {f : Bool} {p : PV} {D : TypeDesc} (ht : Nat.blt t s.n = true) (hx : getO s.env x = .pv f p) (hT : P.underlying T = some D) (hD : (match D with | .interface _ => true | _ => false) = false)
    (next : VO P C ops rest Q (s.put t (.pv f (.ifc T p)))) : VO P C ops (⟨some t, .makeInterface T x, ty, pos, af, none⟩ :: rest) Q s := vo_pure ht (lt_makeIface hx hT hD) next

/-- An interface is asserted to be another one: it is. -/
theorem vo_assert_yes {x : Operand} {T A xt : TypeId} {f : Bool} {p : PV} {want : Array (String × TypeId)} {inf : TypeInfo} (ht : Nat.blt t s.n = true) (hx : getO s.env x = .pv f (.ifc T p)) (hA : P.underlying A = some (.interface want)) (hinf : P.info? T = some inf)
    (hm : Instr.missingMethod want inf.methods = none) (next : VO P C ops rest Q (s.put t (.tup [.pv f (.ifc T p), .pv true (.bool true)]))) :
    VO P C ops (⟨some t, .typeAssert x xt A true, ty, pos, af, none⟩ :: rest) Q s := by
  refine vo_pure ht (fun m a w hs => ?_) next
  have hv := hs.get x
  rw [hx] at hv
  have hv := hv.pv_inv
  obtain ⟨v, hva, hp⟩ : ∃ v, a.eval x = .iface T v ∧ RP w (Gd C s.rows m w f) p v := by
    generalize a.eval x = y at hv
    cases hv with
    | ifc _ _ v h => exact ⟨v, rfl, h⟩
  refine ⟨.tuple #[.iface T v, .bool true], fun w' hw' => ?_, .tup _ _ rfl (fun j c u hc hu => ?_)⟩
  · simp [execOp, hva, Instr.typeAssert, run_underlying hA, typeInfo, hinf, hm]
  · match j, hc, hu with
    | 0, hc, hu => simp at hc hu; subst hc; subst hu; exact .pv _ _ _ (.ifc _ _ _ hp)
    | 1, hc, hu => simp at hc hu; subst hc; subst hu; exact .pv _ _ _ (.bool _)

theorem least_some {l : List String} (h : l ≠ []) : ∃ x, Instr.least l = some x := by
  cases l with
  | nil => exact absurd rfl h
  | cons a l => exact ⟨_, rfl⟩

theorem missing_some {want : Array (String × TypeId)} {got : Array Method} (h : (want.toList.any fun p => !got.any fun m => m.name == p.1 && m.sig == p.2) = true) : ∃ nm, Instr.missingMethod want got = some nm := by
  unfold Instr.missingMethod
  simp only []
  generalize hM : ((want.toList.filter fun (x : String × TypeId) => match x with | (name, sig) => !got.any fun m => m.name == name && m.sig == sig).map (·.1)) = M
  have hne : M ≠ [] := by
    rw [← hM]
    rw [List.any_eq_true] at h
    obtain ⟨p, hp, hq⟩ := h
    intro e
    rw [List.map_eq_nil_iff] at e
    have : p ∈ (want.toList.filter fun (x : String × TypeId) => match x with | (name, sig) => !got.any fun m => m.name == name && m.sig == sig) := List.mem_filter.2 ⟨hp, hq⟩
    rw [e] at this
    cases this
  rw [List.partition_eq_filter_filter]
  by_cases h2 : (M.filter (not ∘ fun x => x.contains '.')) = []
  · have h3 : (M.filter fun x => x.contains '.') ≠ [] := by
      intro e
      cases M with
      | nil => exact hne rfl
      | cons a l =>
        rw [List.filter_eq_nil_iff] at h2 e
        have h4 := h2 a List.mem_cons_self
        have h5 := e a List.mem_cons_self
        simp at h4 h5
        simp_all
    obtain ⟨x, hx⟩ := least_some (l := (M.filter fun x => x.contains '.').map fun id => (id.splitOn ".").getLastD id) (by simpa using h3)
    refine ⟨x, ?_⟩
    simp only [h2]
    rw [hx]
    rfl
  · obtain ⟨x, hx⟩ := least_some h2
    refine ⟨x, ?_⟩
    simp only [hx]
    rfl

/-- It is not. -/
theorem vo_assert_no {x : Operand} {T A xt : TypeId} {f : Bool} {p : PV} {want : Array (String × TypeId)} {inf : TypeInfo} (ht : Nat.blt t s.n = true) (hx : getO s.env x = .pv f (.ifc T p)) (hA : P.underlying A = some (.interface want)) (hinf : P.info? T = some inf)
    (hm : (want.toList.any fun p => !inf.methods.any fun m => m.name == p.1 && m.sig == p.2) = true) (hz : ∀ w, (zeroValue A).run P w = .ok .nilIface w) (next : VO P C ops rest Q (s.put t (.tup [.pv true .nilifc, .pv true (.bool false)]))) :
    VO P C ops (⟨some t, .typeAssert x xt A true, ty, pos, af, none⟩ :: rest) Q s := by
  obtain ⟨nm, hm⟩ := missing_some hm
  refine vo_pure ht (fun m a w hs => ?_) next
  have hv := hs.get x
  rw [hx] at hv
  have hv := hv.pv_inv
  obtain ⟨v, hva, hp⟩ : ∃ v, a.eval x = .iface T v ∧ RP w (Gd C s.rows m w f) p v := by
    generalize a.eval x = y at hv
    cases hv with
    | ifc _ _ v h => exact ⟨v, rfl, h⟩
  refine ⟨.tuple #[.nilIface, .bool false], fun w' hw' => ?_, .tup _ _ rfl (fun j c u hc hu => ?_)⟩
  · simp [execOp, hva, Instr.typeAssert, run_underlying hA, typeInfo, hinf, hm, hz]
  · match j, hc, hu with
    | 0, hc, hu => simp at hc hu; subst hc; subst hu; exact .pv _ _ _ .nilifc
    | 1, hc, hu => simp at hc hu; subst hc; subst hu; exact .pv _ _ _ (.bool _)
end
end Go.Vl

namespace Go.Vl
set_option linter.unusedVariables false
set_option linter.unusedSimpArgs false
open Go.Proofs

structure FoundM where
  how : Int
  owner : Int
  value : Int
  self : Int
  deriving Inhabited, DecidableEq
abbrev foundP (f : FoundM) : PV := .agg [.int .i64 f.how, .int .i64 f.owner, .int .i64 f.value, .int .i64 f.self]
def none0 : FoundM := ⟨0, -1, -1, -1⟩
abbrev memP (o : Int) (a : AttrM) : PV := .agg [.int .i64 o, .int .i64 a.name, .int .i64 a.kind, .int .i64 a.value]
def bindM (ow : Int) (a : AttrM) (obj c : Int) : FoundM :=
  if a.kind = 1 then ⟨if 0 ≤ obj then 3 else 2, ow, a.value, obj⟩
  else if a.kind = 4 then ⟨3, ow, a.value, c⟩
  else if (a.kind = 2 ∨ a.kind = 3) ∧ 0 ≤ obj then ⟨4, ow, a.value, obj⟩
  else ⟨2, ow, a.value, -1⟩
def getR (ow : Int) (a : AttrM) (z pv x cls : Int) : FoundM :=
  if 0 ≤ ow ∧ (a.kind = 2 ∨ a.kind = 3) then bindM ow a x cls else if 0 ≤ z then ⟨1, -1, pv, x⟩ else if 0 ≤ ow then bindM ow a x cls else none0
def getM (w : WorldM) (x : Nat) (name : Int) : FoundM :=
  getR (fnd w.attrs name (ordM w.bases (w.objs.getD x ⟨0, []⟩).cls.toNat)).1 (fnd w.attrs name (ordM w.bases (w.objs.getD x ⟨0, []⟩).cls.toNat)).2 (findM name (nms (w.objs.getD x ⟨0, []⟩).pairs) 0)
    ((w.objs.getD x ⟨0, []⟩).pairs.getD (findM name (nms (w.objs.getD x ⟨0, []⟩).pairs) 0).toNat (0, 0)).2 x (w.objs.getD x ⟨0, []⟩).cls
def hasO (w : WorldM) (x : Int) : Prop := VWorld w ∧ 0 ≤ x ∧ x ≤ (w.objs.length : Int) - 1
instance (w : WorldM) (x : Int) : Decidable (hasO w x) := by unfold hasO; exact inferInstance
def getAttrM (w : WorldM) (x name : Int) : FoundM := if hasO w x then getM w x.toNat name else none0
def getClsM (w : WorldM) (c name : Int) : FoundM := if 0 ≤ (fndM w c name).1 then bindM (fndM w c name).1 (fndM w c name).2 (-1) c else none0
def bindO (r : Int × AttrM) (x c : Int) : FoundM := if 0 ≤ r.1 then bindM r.1 r.2 x c else none0
def superM (w : WorldM) (x beh name : Int) : FoundM := if hasO w x then bindO (fnd w.attrs name (rstM (ordM w.bases (w.objs.getD x.toNat ⟨0, []⟩).cls.toNat) beh)) x (w.objs.getD x.toNat ⟨0, []⟩).cls else none0
theorem hasO_cls {w : WorldM} {x : Int} (h : hasO w x) : 0 ≤ (w.objs.getD x.toNat ⟨0, []⟩).cls ∧ (w.objs.getD x.toNat ⟨0, []⟩).cls ≤ (w.bases.length : Int) - 1 := by
  have h2 := h.1.2.2.2.2 _ (getD_mem (show x.toNat < w.objs.length by have := h.2; omega) ⟨0, []⟩)
  unfold okObj at h2; exact h2.1
theorem fndM_obj {w : WorldM} {x name : Int} (h : hasO w x) : fndM w (w.objs.getD x.toNat ⟨0, []⟩).cls name = fnd w.attrs name (ordM w.bases (w.objs.getD x.toNat ⟨0, []⟩).cls.toNat) := by
  unfold fndM; rw [if_pos ⟨h.1, hasO_cls h⟩]
theorem getAttrM_yes {w : WorldM} {x name : Int} (h : hasO w x) : getAttrM w x name = getR (fndM w (w.objs.getD x.toNat ⟨0, []⟩).cls name).1 (fndM w (w.objs.getD x.toNat ⟨0, []⟩).cls name).2 (findM name (nms (w.objs.getD x.toNat ⟨0, []⟩).pairs) 0)
    ((w.objs.getD x.toNat ⟨0, []⟩).pairs.getD (findM name (nms (w.objs.getD x.toNat ⟨0, []⟩).pairs) 0).toNat (0, 0)).2 x (w.objs.getD x.toNat ⟨0, []⟩).cls := by
  unfold getAttrM; rw [if_pos h, fndM_obj h]; unfold getM; rw [Int.toNat_of_nonneg h.2.1]
theorem fr_eq {f : Bool} {a b : FoundM} (h : a = b) : [SV.pv f (foundP a)] = [SV.pv f (foundP b)] := by rw [h]

/-- A member of a class: one of six types. -/
def MemIs (ow : Int) (a : AttrM) (p : PV) : Prop := (ow < 0 ∧ p = .ifc 178 (.agg [])) ∨ ((0 ≤ ow ∧ a.kind ≠ 1 ∧ a.kind ≠ 2 ∧ a.kind ≠ 3 ∧ a.kind ≠ 4) ∧ p = .ifc 180 (memP ow a)) ∨ ((0 ≤ ow ∧ a.kind = 1) ∧ p = .ifc 182 (memP ow a)) ∨
  ((0 ≤ ow ∧ a.kind = 3) ∧ p = .ifc 183 (memP ow a)) ∨ ((0 ≤ ow ∧ a.kind = 2) ∧ p = .ifc 185 (memP ow a)) ∨ ((0 ≤ ow ∧ a.kind = 4) ∧ p = .ifc 186 (memP ow a))
theorem mth178_byObject : MethAt Try.prog 178 "loop.example/objectmodel/impl.byObject" (.agg []) 211 (.agg []) := by
  intro w G v h
  cases h with
  | agg _ vs hl h1 h =>
    obtain ⟨l⟩ := vs
    match l, hl with
    | [], hl => exact ⟨.agg #[], by kernel_rfl, .agg _ _ rfl h1 h⟩
theorem mth180_byObject (c0 c1 c2 c3 : PV) : MethAt Try.prog 180 "loop.example/objectmodel/impl.byObject" (.agg [c0, c1, c2, c3]) 213 (.agg [c0, c1, c2, c3]) := by
  intro w G v h
  cases h with
  | agg _ vs hl h1 h =>
    obtain ⟨l⟩ := vs
    match l, hl with
    | [v0, v1, v2, v3], hl => exact ⟨.agg #[v0, v1, v2, v3], by kernel_rfl, .agg _ _ rfl h1 h⟩
theorem mth182_byObject (c0 c1 c2 c3 : PV) : MethAt Try.prog 182 "loop.example/objectmodel/impl.byObject" (.agg [c0, c1, c2, c3]) 215 (.agg [c0, c1, c2, c3]) := by
  intro w G v h
  cases h with
  | agg _ vs hl h1 h =>
    obtain ⟨l⟩ := vs
    match l, hl with
    | [v0, v1, v2, v3], hl => exact ⟨.agg #[v0, v1, v2, v3], by kernel_rfl, .agg _ _ rfl h1 h⟩
theorem mth183_byObject (c0 c1 c2 c3 : PV) : MethAt Try.prog 183 "loop.example/objectmodel/impl.byObject" (.agg [c0, c1, c2, c3]) 216 (.agg [c0, c1, c2, c3]) := by
  intro w G v h
  cases h with
  | agg _ vs hl h1 h =>
    obtain ⟨l⟩ := vs
    match l, hl with
    | [v0, v1, v2, v3], hl => exact ⟨.agg #[v0, v1, v2, v3], by kernel_rfl, .agg _ _ rfl h1 h⟩
theorem mth185_byObject (c0 c1 c2 c3 : PV) : MethAt Try.prog 185 "loop.example/objectmodel/impl.byObject" (.agg [c0, c1, c2, c3]) 216 (.agg [c0, c1, c2, c3]) := by
  intro w G v h
  cases h with
  | agg _ vs hl h1 h =>
    obtain ⟨l⟩ := vs
    match l, hl with
    | [v0, v1, v2, v3], hl => exact ⟨.agg #[v0, v1, v2, v3], by kernel_rfl, .agg _ _ rfl h1 h⟩
theorem mth186_byObject (c0 c1 c2 c3 : PV) : MethAt Try.prog 186 "loop.example/objectmodel/impl.byObject" (.agg [c0, c1, c2, c3]) 220 (.agg [c0, c1, c2, c3]) := by
  intro w G v h
  cases h with
  | agg _ vs hl h1 h =>
    obtain ⟨l⟩ := vs
    match l, hl with
    | [v0, v1, v2, v3], hl => exact ⟨.agg #[v0, v1, v2, v3], by kernel_rfl, .agg _ _ rfl h1 h⟩
theorem nms_lt {n : Int} {l : List (Int × Int)} : 0 ≤ findM n (nms l) 0 → findM n (nms l) 0 < l.length := fun h => by have := findM_ltL h; rw [nms_len] at this; exact this
theorem foundNothing_sat    : SatAt Try.prog 89 [] [] (fun res rows => res = [.pv true (foundP none0)] ∧ rows = []) := by
  refine sat_entry_G (rs := [(0, some (60, 4))]) Try.func89 rfl rfl (Nat.le_of_ble_eq_true rfl) (Nat.le_of_ble_eq_true rfl) (resTs1 ⟨_, _, Try.underlying60, rfl, inf60, sz60⟩) fun C hC => ?_
  rw [Try.ntmps89]
  replace hC : C.nb = 0 := hC
  refine vc_seq fun K1 hK1 => ?_
  refine vc_region ?_
  refine vo_alloc Z60 rfl ?_
  refine vo_stM ?_
  refine vo_nil ?_
  refine hK1 _ ?_
  refine vc_seq fun K2 hK2 => ?_
  refine vc_region ?_
  refine vo_build S60 rfl rfl rfl ?_
  refine vo_stM ?_
  refine vo_store_varS rfl rfl rfl inf60 sz60 rfl ?_
  refine vo_stM ?_
  refine vo_nil ?_
  refine hK2 _ ?_
  refine vc_ret ?_
  change retQ _ _ _ _ _
  refine retQ_sel [] (srows := []) (.inr rfl) hC rfl rfl rfl rfl rfl rfl rfl ?_
  exact ⟨rfl, rfl⟩


theorem found_sat {o : Int} {a : AttrM} {how : Int} {self : Int} : SatAt Try.prog 214 [.pv false (memP o a), i64 how, i64 self] [] (fun res rows => res = [.pv true (foundP ⟨how, o, a.value, self⟩)] ∧ rows = []) := by
  refine sat_entry_G (rs := [(6, some (60, 4))]) Try.func214 rfl rfl (Nat.le_of_ble_eq_true rfl) (Nat.le_of_ble_eq_true rfl) (resTs1 ⟨_, _, Try.underlying60, rfl, inf60, sz60⟩) fun C hC => ?_
  rw [Try.ntmps214]
  replace hC : C.nb = 0 := hC
  refine vc_seq fun K1 hK1 => ?_
  refine vc_region ?_
  refine vo_box rfl rfl ?_
  refine vo_stM ?_
  refine vo_alloc Z60 rfl ?_
  refine vo_stM ?_
  refine vo_nil ?_
  refine hK1 _ ?_
  refine vc_seq fun K2 hK2 => ?_
  refine vc_region ?_
  refine vo_move_pv rfl rfl ?_
  refine vo_fieldAddr_ptr rfl rfl Try.underlying180 rfl inf3 (by rw [sz3]; decide) ?_
  try simp only [Nat.zero_add]
  refine vo_load_var rfl rfl rfl Try.underlying3 rfl rfl ?_
  refine vo_fieldAddr_ptr rfl rfl Try.underlying180 rfl inf73 (by rw [sz73]; decide) ?_
  try simp only [Nat.zero_add]
  refine vo_fieldAddr_ptr rfl rfl Try.underlying73 rfl inf3 (by rw [sz3]; decide) ?_
  try simp only [Nat.zero_add]
  refine vo_load_var rfl rfl rfl Try.underlying3 rfl rfl ?_
  refine vo_move_pv rfl rfl ?_
  refine vo_build S60 rfl rfl rfl ?_
  refine vo_stM ?_
  refine vo_store_varS rfl rfl rfl inf60 sz60 rfl ?_
  refine vo_stM ?_
  refine vo_nil ?_
  refine hK2 _ ?_
  refine vc_ret ?_
  change retQ _ _ _ _ _
  refine retQ_sel [] (srows := []) (.inr rfl) hC rfl rfl rfl rfl rfl rfl rfl ?_
  exact ⟨rfl, rfl⟩


theorem plainByObject_sat {o : Int} {a : AttrM} {x : Int} {c : Int} : SatAt Try.prog 213 [.pv false (memP o a), i64 x, i64 c] [] (fun res rows => res = [.pv true (foundP ⟨2, o, a.value, -1⟩)] ∧ rows = []) := by
  refine sat_entry_G (rs := [(6, some (60, 4))]) Try.func213 rfl rfl (Nat.le_of_ble_eq_true rfl) (Nat.le_of_ble_eq_true rfl) (resTs1 ⟨_, _, Try.underlying60, rfl, inf60, sz60⟩) fun C hC => ?_
  rw [Try.ntmps213]
  replace hC : C.nb = 0 := hC
  refine vc_seq fun K1 hK1 => ?_
  refine vc_region ?_
  refine vo_box rfl rfl ?_
  refine vo_stM ?_
  refine vo_alloc Z60 rfl ?_
  refine vo_stM ?_
  refine vo_nil ?_
  refine hK1 _ ?_
  refine vc_seq fun K2 hK2 => ?_
  refine vc_region ?_
  refine vo_load_varS rfl rfl rfl Try.underlying180 rfl inf180 sz180 rfl rfl ?_
  refine vo_call0 Try.func214 rfl rfl rfl rfl (found_sat (o := o) (a := a)) ?_
  rintro _ _ ⟨rfl, rfl⟩
  refine ⟨rfl, rfl, .inl rfl, ?_⟩
  refine vo_stM ?_
  refine vo_store_varS rfl rfl rfl inf60 sz60 rfl ?_
  refine vo_stM ?_
  refine vo_nil ?_
  refine hK2 _ ?_
  refine vc_ret ?_
  change retQ _ _ _ _ _
  refine retQ_sel [] (srows := []) (.inr rfl) hC rfl rfl rfl rfl rfl rfl rfl ?_
  exact ⟨rfl, rfl⟩


theorem methodByObject_sat {o : Int} {a : AttrM} {x : Int} {c : Int} : SatAt Try.prog 215 [.pv false (memP o a), i64 x, i64 c] [] (fun res rows => res = [.pv true (foundP ⟨3, o, a.value, x⟩)] ∧ rows = []) := by
  refine sat_entry_G (rs := [(6, some (60, 4))]) Try.func215 rfl rfl (Nat.le_of_ble_eq_true rfl) (Nat.le_of_ble_eq_true rfl) (resTs1 ⟨_, _, Try.underlying60, rfl, inf60, sz60⟩) fun C hC => ?_
  rw [Try.ntmps215]
  replace hC : C.nb = 0 := hC
  refine vc_seq fun K1 hK1 => ?_
  refine vc_region ?_
  refine vo_box rfl rfl ?_
  refine vo_stM ?_
  refine vo_alloc Z60 rfl ?_
  refine vo_stM ?_
  refine vo_nil ?_
  refine hK1 _ ?_
  refine vc_seq fun K2 hK2 => ?_
  refine vc_region ?_
  refine vo_fieldAddr_ptr rfl rfl Try.underlying182 rfl inf180 (by rw [sz180]; decide) ?_
  try simp only [Nat.zero_add]
  refine vo_load_varS rfl rfl rfl Try.underlying180 rfl inf180 sz180 rfl rfl ?_
  refine vo_move_pv rfl rfl ?_
  refine vo_call0 Try.func214 rfl rfl rfl rfl (found_sat (o := o) (a := a)) ?_
  rintro _ _ ⟨rfl, rfl⟩
  refine ⟨rfl, rfl, .inl rfl, ?_⟩
  refine vo_stM ?_
  refine vo_store_varS rfl rfl rfl inf60 sz60 rfl ?_
  refine vo_stM ?_
  refine vo_nil ?_
  refine hK2 _ ?_
  refine vc_ret ?_
  change retQ _ _ _ _ _
  refine retQ_sel [] (srows := []) (.inr rfl) hC rfl rfl rfl rfl rfl rfl rfl ?_
  exact ⟨rfl, rfl⟩


theorem classByObject_sat {o : Int} {a : AttrM} {x : Int} {c : Int} : SatAt Try.prog 220 [.pv false (memP o a), i64 x, i64 c] [] (fun res rows => res = [.pv true (foundP ⟨3, o, a.value, c⟩)] ∧ rows = []) := by
  refine sat_entry_G (rs := [(6, some (60, 4))]) Try.func220 rfl rfl (Nat.le_of_ble_eq_true rfl) (Nat.le_of_ble_eq_true rfl) (resTs1 ⟨_, _, Try.underlying60, rfl, inf60, sz60⟩) fun C hC => ?_
  rw [Try.ntmps220]
  replace hC : C.nb = 0 := hC
  refine vc_seq fun K1 hK1 => ?_
  refine vc_region ?_
  refine vo_box rfl rfl ?_
  refine vo_stM ?_
  refine vo_alloc Z60 rfl ?_
  refine vo_stM ?_
  refine vo_nil ?_
  refine hK1 _ ?_
  refine vc_seq fun K2 hK2 => ?_
  refine vc_region ?_
  refine vo_fieldAddr_ptr rfl rfl Try.underlying186 rfl inf180 (by rw [sz180]; decide) ?_
  try simp only [Nat.zero_add]
  refine vo_load_varS rfl rfl rfl Try.underlying180 rfl inf180 sz180 rfl rfl ?_
  refine vo_move_pv rfl rfl ?_
  refine vo_call0 Try.func214 rfl rfl rfl rfl (found_sat (o := o) (a := a)) ?_
  rintro _ _ ⟨rfl, rfl⟩
  refine ⟨rfl, rfl, .inl rfl, ?_⟩
  refine vo_stM ?_
  refine vo_store_varS rfl rfl rfl inf60 sz60 rfl ?_
  refine vo_stM ?_
  refine vo_nil ?_
  refine hK2 _ ?_
  refine vc_ret ?_
  change retQ _ _ _ _ _
  refine retQ_sel [] (srows := []) (.inr rfl) hC rfl rfl rfl rfl rfl rfl rfl ?_
  exact ⟨rfl, rfl⟩


theorem fixedByObject_sat {o : Int} {a : AttrM} {x : Int} {c : Int} : SatAt Try.prog 216 [.pv false (memP o a), i64 x, i64 c] [] (fun res rows => res = [.pv true (foundP ⟨4, o, a.value, x⟩)] ∧ rows = []) := by
  refine sat_entry_G (rs := [(6, some (60, 4))]) Try.func216 rfl rfl (Nat.le_of_ble_eq_true rfl) (Nat.le_of_ble_eq_true rfl) (resTs1 ⟨_, _, Try.underlying60, rfl, inf60, sz60⟩) fun C hC => ?_
  rw [Try.ntmps216]
  replace hC : C.nb = 0 := hC
  refine vc_seq fun K1 hK1 => ?_
  refine vc_region ?_
  refine vo_box rfl rfl ?_
  refine vo_stM ?_
  refine vo_alloc Z60 rfl ?_
  refine vo_stM ?_
  refine vo_nil ?_
  refine hK1 _ ?_
  refine vc_seq fun K2 hK2 => ?_
  refine vc_region ?_
  refine vo_fieldAddr_ptr rfl rfl Try.underlying183 rfl inf180 (by rw [sz180]; decide) ?_
  try simp only [Nat.zero_add]
  refine vo_load_varS rfl rfl rfl Try.underlying180 rfl inf180 sz180 rfl rfl ?_
  refine vo_move_pv rfl rfl ?_
  refine vo_call0 Try.func214 rfl rfl rfl rfl (found_sat (o := o) (a := a)) ?_
  rintro _ _ ⟨rfl, rfl⟩
  refine ⟨rfl, rfl, .inl rfl, ?_⟩
  refine vo_stM ?_
  refine vo_store_varS rfl rfl rfl inf60 sz60 rfl ?_
  refine vo_stM ?_
  refine vo_nil ?_
  refine hK2 _ ?_
  refine vc_ret ?_
  change retQ _ _ _ _ _
  refine retQ_sel [] (srows := []) (.inr rfl) hC rfl rfl rfl rfl rfl rfl rfl ?_
  exact ⟨rfl, rfl⟩


theorem noByObject_sat {x c : Int} : SatAt Try.prog 211 [.pv false (.agg []), i64 x, i64 c] [] (fun res rows => res = [.pv true (foundP none0)] ∧ rows = []) := by
  refine sat_entry_G (rs := [(6, some (60, 4))]) Try.func211 rfl rfl (Nat.le_of_ble_eq_true rfl) (Nat.le_of_ble_eq_true rfl) (resTs1 ⟨_, _, Try.underlying60, rfl, inf60, sz60⟩) fun C hC => ?_
  rw [Try.ntmps211]
  replace hC : C.nb = 0 := hC
  refine vc_seq fun K1 hK1 => ?_
  refine vc_region ?_
  refine vo_box rfl rfl ?_
  refine vo_stM ?_
  refine vo_alloc Z60 rfl ?_
  refine vo_stM ?_
  refine vo_nil ?_
  refine hK1 _ ?_
  refine vc_seq fun K2 hK2 => ?_
  refine vc_region ?_
  refine vo_call0 Try.func89 rfl rfl rfl rfl foundNothing_sat ?_
  rintro _ _ ⟨rfl, rfl⟩
  refine ⟨rfl, rfl, .inl rfl, ?_⟩
  refine vo_stM ?_
  refine vo_store_varS rfl rfl rfl inf60 sz60 rfl ?_
  refine vo_stM ?_
  refine vo_nil ?_
  refine hK2 _ ?_
  refine vc_ret ?_
  change retQ _ _ _ _ _
  refine retQ_sel [] (srows := []) (.inr rfl) hC rfl rfl rfl rfl rfl rfl rfl ?_
  exact ⟨rfl, rfl⟩


theorem memberOf_sat {ow : Int} {a : AttrM}   : SatAt Try.prog 99 [i64 ow, .pv false (attrP a)] [] (fun res rows => ∃ p, MemIs ow a p ∧ res = [.pv true p] ∧ rows = []) := by
  refine sat_entry_G (rs := [(4, none)]) Try.func99 rfl rfl (Nat.le_of_ble_eq_true rfl) (Nat.le_of_ble_eq_true rfl) (resTs1 trivial) fun C hC => ?_
  rw [Try.ntmps99]
  replace hC : C.nb = 0 := hC
  refine vc_seq fun K1 hK1 => ?_
  refine vc_region ?_
  refine vo_box rfl rfl ?_
  refine vo_stM ?_
  refine vo_assign rfl ?_
  refine vo_stM ?_
  refine vo_nil ?_
  refine hK1 _ ?_
  refine vc_seq fun K2 hK2 => ?_
  refine vc_seq fun K3 hK3 => ?_
  refine vc_region ?_
  refine vo_move_pv rfl rfl ?_
  refine vo_binI rfl rfl rfl rfl trivial ?_
  refine vo_nil ?_
  refine hK3 _ ?_
  refine vc_cond rfl (fun hc1 => ?_) (fun hc1 => ?_)
  · try simp only [decide_eq_true_eq, decide_eq_false_iff_not, beq_iff_eq, bne_iff_ne, beq_eq_false_iff_ne, bne_eq_false_iff_eq, Bool.not_eq_true, Bool.not_eq_false, Bool.not_eq_eq_eq_not, Bool.not_true, Bool.not_false, List.length_map, Int.not_lt, Int.not_le, ne_eq, Decidable.not_not] at hc1
    refine vc_seq fun K4 hK4 => ?_
    refine vc_region ?_
    refine vo_build S178 rfl rfl rfl ?_
    refine vo_stM ?_
    refine vo_makeIface rfl rfl Try.underlying178 rfl ?_
    refine vo_stM ?_
    refine vo_assign rfl ?_
    refine vo_stM ?_
    refine vo_nil ?_
    refine hK4 _ ?_
    refine vc_ret ?_
    change retQ _ _ _ _ _
    refine retQ_sel [] (srows := []) (.inr rfl) hC rfl rfl rfl rfl rfl rfl rfl ?_
    first
      | exact ⟨_, .inl ⟨by omega, rfl⟩, rfl, rfl⟩
      | exact ⟨_, .inr (.inr (.inl ⟨⟨by omega, by omega⟩, rfl⟩)), rfl, rfl⟩
      | exact ⟨_, .inr (.inr (.inr (.inl ⟨⟨by omega, by omega⟩, rfl⟩))), rfl, rfl⟩
      | exact ⟨_, .inr (.inr (.inr (.inr (.inl ⟨⟨by omega, by omega⟩, rfl⟩)))), rfl, rfl⟩
      | exact ⟨_, .inr (.inr (.inr (.inr (.inr ⟨⟨by omega, by omega⟩, rfl⟩)))), rfl, rfl⟩
      | exact ⟨_, .inr (.inl ⟨⟨by omega, by omega, by omega, by omega, by omega⟩, rfl⟩), rfl, rfl⟩
  · try simp only [decide_eq_true_eq, decide_eq_false_iff_not, beq_iff_eq, bne_iff_ne, beq_eq_false_iff_ne, bne_eq_false_iff_eq, Bool.not_eq_true, Bool.not_eq_false, Bool.not_eq_eq_eq_not, Bool.not_true, Bool.not_false, List.length_map, Int.not_lt, Int.not_le, ne_eq, Decidable.not_not] at hc1
    refine vc_skip ?_
    refine hK2 _ ?_
    refine vc_seq fun K5 hK5 => ?_
    refine vc_region ?_
    refine vo_move_pv rfl rfl ?_
    refine vo_load_varS rfl rfl rfl Try.underlying73 rfl inf73 sz73 rfl rfl ?_
    refine vo_build S180 rfl rfl rfl ?_
    refine vo_stM ?_
    refine vo_alloc Z180 rfl ?_
    refine vo_stM ?_
    refine vo_store_varS rfl rfl rfl inf180 sz180 rfl ?_
    refine vo_stM ?_
    refine vo_nil ?_
    refine hK5 _ ?_
    refine vc_seq fun K6 hK6 => ?_
    refine vc_seq fun K7 hK7 => ?_
    refine vc_region ?_
    refine vo_fieldAddr_ptr rfl rfl Try.underlying73 rfl inf3 (by rw [sz3]; decide) ?_
    try simp only [Nat.zero_add]
    refine vo_load_var rfl rfl rfl Try.underlying3 rfl rfl ?_
    refine vo_nil ?_
    refine hK7 _ ?_
    refine vc_block ?_
    refine vc_seq fun K8 hK8 => ?_
    refine vc_region ?_
    refine vo_binI rfl rfl rfl rfl trivial ?_
    refine vo_assign_pv rfl rfl ?_
    refine vo_nil ?_
    refine hK8 _ ?_
    refine vc_cond rfl (fun hc2 => ?_) (fun hc2 => ?_)
    · try simp only [decide_eq_true_eq, decide_eq_false_iff_not, beq_iff_eq, bne_iff_ne, beq_eq_false_iff_ne, bne_eq_false_iff_eq, Bool.not_eq_true, Bool.not_eq_false, Bool.not_eq_eq_eq_not, Bool.not_true, Bool.not_false, List.length_map, Int.not_lt, Int.not_le, ne_eq, Decidable.not_not] at hc2
      refine vc_seq fun K9 hK9 => ?_
      refine vc_region ?_
      refine vo_load_varS rfl rfl rfl Try.underlying180 rfl inf180 sz180 rfl rfl ?_
      refine vo_build S182 rfl rfl rfl ?_
      refine vo_stM ?_
      refine vo_makeIface rfl rfl Try.underlying182 rfl ?_
      refine vo_stM ?_
      refine vo_assign rfl ?_
      refine vo_stM ?_
      refine vo_nil ?_
      refine hK9 _ ?_
      refine vc_ret ?_
      change retQ _ _ _ _ _
      refine retQ_sel [] (srows := []) (.inr rfl) hC rfl rfl rfl rfl rfl rfl rfl ?_
      first
        | exact ⟨_, .inl ⟨by omega, rfl⟩, rfl, rfl⟩
        | exact ⟨_, .inr (.inr (.inl ⟨⟨by omega, by omega⟩, rfl⟩)), rfl, rfl⟩
        | exact ⟨_, .inr (.inr (.inr (.inl ⟨⟨by omega, by omega⟩, rfl⟩))), rfl, rfl⟩
        | exact ⟨_, .inr (.inr (.inr (.inr (.inl ⟨⟨by omega, by omega⟩, rfl⟩)))), rfl, rfl⟩
        | exact ⟨_, .inr (.inr (.inr (.inr (.inr ⟨⟨by omega, by omega⟩, rfl⟩)))), rfl, rfl⟩
        | exact ⟨_, .inr (.inl ⟨⟨by omega, by omega, by omega, by omega, by omega⟩, rfl⟩), rfl, rfl⟩
    · try simp only [decide_eq_true_eq, decide_eq_false_iff_not, beq_iff_eq, bne_iff_ne, beq_eq_false_iff_ne, bne_eq_false_iff_eq, Bool.not_eq_true, Bool.not_eq_false, Bool.not_eq_eq_eq_not, Bool.not_true, Bool.not_false, List.length_map, Int.not_lt, Int.not_le, ne_eq, Decidable.not_not] at hc2
      refine vc_seq fun K10 hK10 => ?_
      refine vc_region ?_
      refine vo_binI rfl rfl rfl rfl trivial ?_
      refine vo_assign_pv rfl rfl ?_
      refine vo_nil ?_
      refine hK10 _ ?_
      refine vc_cond rfl (fun hc3 => ?_) (fun hc3 => ?_)
      · try simp only [decide_eq_true_eq, decide_eq_false_iff_not, beq_iff_eq, bne_iff_ne, beq_eq_false_iff_ne, bne_eq_false_iff_eq, Bool.not_eq_true, Bool.not_eq_false, Bool.not_eq_eq_eq_not, Bool.not_true, Bool.not_false, List.length_map, Int.not_lt, Int.not_le, ne_eq, Decidable.not_not] at hc3
        refine vc_seq fun K11 hK11 => ?_
        refine vc_region ?_
        refine vo_load_varS rfl rfl rfl Try.underlying180 rfl inf180 sz180 rfl rfl ?_
        refine vo_build S183 rfl rfl rfl ?_
        refine vo_stM ?_
        refine vo_build S185 rfl rfl rfl ?_
        refine vo_stM ?_
        refine vo_makeIface rfl rfl Try.underlying185 rfl ?_
        refine vo_stM ?_
        refine vo_assign rfl ?_
        refine vo_stM ?_
        refine vo_nil ?_
        refine hK11 _ ?_
        refine vc_ret ?_
        change retQ _ _ _ _ _
        refine retQ_sel [] (srows := []) (.inr rfl) hC rfl rfl rfl rfl rfl rfl rfl ?_
        first
          | exact ⟨_, .inl ⟨by omega, rfl⟩, rfl, rfl⟩
          | exact ⟨_, .inr (.inr (.inl ⟨⟨by omega, by omega⟩, rfl⟩)), rfl, rfl⟩
          | exact ⟨_, .inr (.inr (.inr (.inl ⟨⟨by omega, by omega⟩, rfl⟩))), rfl, rfl⟩
          | exact ⟨_, .inr (.inr (.inr (.inr (.inl ⟨⟨by omega, by omega⟩, rfl⟩)))), rfl, rfl⟩
          | exact ⟨_, .inr (.inr (.inr (.inr (.inr ⟨⟨by omega, by omega⟩, rfl⟩)))), rfl, rfl⟩
          | exact ⟨_, .inr (.inl ⟨⟨by omega, by omega, by omega, by omega, by omega⟩, rfl⟩), rfl, rfl⟩
      · try simp only [decide_eq_true_eq, decide_eq_false_iff_not, beq_iff_eq, bne_iff_ne, beq_eq_false_iff_ne, bne_eq_false_iff_eq, Bool.not_eq_true, Bool.not_eq_false, Bool.not_eq_eq_eq_not, Bool.not_true, Bool.not_false, List.length_map, Int.not_lt, Int.not_le, ne_eq, Decidable.not_not] at hc3
        refine vc_seq fun K12 hK12 => ?_
        refine vc_region ?_
        refine vo_binI rfl rfl rfl rfl trivial ?_
        refine vo_assign_pv rfl rfl ?_
        refine vo_nil ?_
        refine hK12 _ ?_
        refine vc_cond rfl (fun hc4 => ?_) (fun hc4 => ?_)
        · try simp only [decide_eq_true_eq, decide_eq_false_iff_not, beq_iff_eq, bne_iff_ne, beq_eq_false_iff_ne, bne_eq_false_iff_eq, Bool.not_eq_true, Bool.not_eq_false, Bool.not_eq_eq_eq_not, Bool.not_true, Bool.not_false, List.length_map, Int.not_lt, Int.not_le, ne_eq, Decidable.not_not] at hc4
          refine vc_seq fun K13 hK13 => ?_
          refine vc_region ?_
          refine vo_load_varS rfl rfl rfl Try.underlying180 rfl inf180 sz180 rfl rfl ?_
          refine vo_build S183 rfl rfl rfl ?_
          refine vo_stM ?_
          refine vo_makeIface rfl rfl Try.underlying183 rfl ?_
          refine vo_stM ?_
          refine vo_assign rfl ?_
          refine vo_stM ?_
          refine vo_nil ?_
          refine hK13 _ ?_
          refine vc_ret ?_
          change retQ _ _ _ _ _
          refine retQ_sel [] (srows := []) (.inr rfl) hC rfl rfl rfl rfl rfl rfl rfl ?_
          first
            | exact ⟨_, .inl ⟨by omega, rfl⟩, rfl, rfl⟩
            | exact ⟨_, .inr (.inr (.inl ⟨⟨by omega, by omega⟩, rfl⟩)), rfl, rfl⟩
            | exact ⟨_, .inr (.inr (.inr (.inl ⟨⟨by omega, by omega⟩, rfl⟩))), rfl, rfl⟩
            | exact ⟨_, .inr (.inr (.inr (.inr (.inl ⟨⟨by omega, by omega⟩, rfl⟩)))), rfl, rfl⟩
            | exact ⟨_, .inr (.inr (.inr (.inr (.inr ⟨⟨by omega, by omega⟩, rfl⟩)))), rfl, rfl⟩
            | exact ⟨_, .inr (.inl ⟨⟨by omega, by omega, by omega, by omega, by omega⟩, rfl⟩), rfl, rfl⟩
        · try simp only [decide_eq_true_eq, decide_eq_false_iff_not, beq_iff_eq, bne_iff_ne, beq_eq_false_iff_ne, bne_eq_false_iff_eq, Bool.not_eq_true, Bool.not_eq_false, Bool.not_eq_eq_eq_not, Bool.not_true, Bool.not_false, List.length_map, Int.not_lt, Int.not_le, ne_eq, Decidable.not_not] at hc4
          refine vc_seq fun K14 hK14 => ?_
          refine vc_region ?_
          refine vo_binI rfl rfl rfl rfl trivial ?_
          refine vo_assign_pv rfl rfl ?_
          refine vo_nil ?_
          refine hK14 _ ?_
          refine vc_cond rfl (fun hc5 => ?_) (fun hc5 => ?_)
          · try simp only [decide_eq_true_eq, decide_eq_false_iff_not, beq_iff_eq, bne_iff_ne, beq_eq_false_iff_ne, bne_eq_false_iff_eq, Bool.not_eq_true, Bool.not_eq_false, Bool.not_eq_eq_eq_not, Bool.not_true, Bool.not_false, List.length_map, Int.not_lt, Int.not_le, ne_eq, Decidable.not_not] at hc5
            refine vc_seq fun K15 hK15 => ?_
            refine vc_region ?_
            refine vo_load_varS rfl rfl rfl Try.underlying180 rfl inf180 sz180 rfl rfl ?_
            refine vo_build S186 rfl rfl rfl ?_
            refine vo_stM ?_
            refine vo_makeIface rfl rfl Try.underlying186 rfl ?_
            refine vo_stM ?_
            refine vo_assign rfl ?_
            refine vo_stM ?_
            refine vo_nil ?_
            refine hK15 _ ?_
            refine vc_ret ?_
            change retQ _ _ _ _ _
            refine retQ_sel [] (srows := []) (.inr rfl) hC rfl rfl rfl rfl rfl rfl rfl ?_
            first
              | exact ⟨_, .inl ⟨by omega, rfl⟩, rfl, rfl⟩
              | exact ⟨_, .inr (.inr (.inl ⟨⟨by omega, by omega⟩, rfl⟩)), rfl, rfl⟩
              | exact ⟨_, .inr (.inr (.inr (.inl ⟨⟨by omega, by omega⟩, rfl⟩))), rfl, rfl⟩
              | exact ⟨_, .inr (.inr (.inr (.inr (.inl ⟨⟨by omega, by omega⟩, rfl⟩)))), rfl, rfl⟩
              | exact ⟨_, .inr (.inr (.inr (.inr (.inr ⟨⟨by omega, by omega⟩, rfl⟩)))), rfl, rfl⟩
              | exact ⟨_, .inr (.inl ⟨⟨by omega, by omega, by omega, by omega, by omega⟩, rfl⟩), rfl, rfl⟩
          · try simp only [decide_eq_true_eq, decide_eq_false_iff_not, beq_iff_eq, bne_iff_ne, beq_eq_false_iff_ne, bne_eq_false_iff_eq, Bool.not_eq_true, Bool.not_eq_false, Bool.not_eq_eq_eq_not, Bool.not_true, Bool.not_false, List.length_map, Int.not_lt, Int.not_le, ne_eq, Decidable.not_not] at hc5
            refine vc_skip ?_
            refine hK6 _ ?_
            refine vc_seq fun K16 hK16 => ?_
            refine vc_region ?_
            refine vo_load_varS rfl rfl rfl Try.underlying180 rfl inf180 sz180 rfl rfl ?_
            refine vo_makeIface rfl rfl Try.underlying180 rfl ?_
            refine vo_stM ?_
            refine vo_assign rfl ?_
            refine vo_stM ?_
            refine vo_nil ?_
            refine hK16 _ ?_
            refine vc_ret ?_
            change retQ _ _ _ _ _
            refine retQ_sel [] (srows := []) (.inr rfl) hC rfl rfl rfl rfl rfl rfl rfl ?_
            first
              | exact ⟨_, .inl ⟨by omega, rfl⟩, rfl, rfl⟩
              | exact ⟨_, .inr (.inr (.inl ⟨⟨by omega, by omega⟩, rfl⟩)), rfl, rfl⟩
              | exact ⟨_, .inr (.inr (.inr (.inl ⟨⟨by omega, by omega⟩, rfl⟩))), rfl, rfl⟩
              | exact ⟨_, .inr (.inr (.inr (.inr (.inl ⟨⟨by omega, by omega⟩, rfl⟩)))), rfl, rfl⟩
              | exact ⟨_, .inr (.inr (.inr (.inr (.inr ⟨⟨by omega, by omega⟩, rfl⟩)))), rfl, rfl⟩
              | exact ⟨_, .inr (.inl ⟨⟨by omega, by omega, by omega, by omega, by omega⟩, rfl⟩), rfl, rfl⟩


theorem memberIn_sat {w : WorldM} {c : Int} {name : Int}  (hw : SW w) : SatAt Try.prog 90 [.pv false (worldP w), i64 c, i64 name] [] (fun res rows => ∃ p, MemIs (fndM w c name).1 (fndM w c name).2 p ∧ res = [.pv true p] ∧ rows = []) := by
  refine sat_entry_G (rs := [(6, none)]) Try.func90 rfl rfl (Nat.le_of_ble_eq_true rfl) (Nat.le_of_ble_eq_true rfl) (resTs1 trivial) fun C hC => ?_
  rw [Try.ntmps90]
  replace hC : C.nb = 0 := hC
  refine vc_seq fun K1 hK1 => ?_
  refine vc_region ?_
  refine vo_box rfl rfl ?_
  refine vo_stM ?_
  refine vo_assign rfl ?_
  refine vo_stM ?_
  refine vo_nil ?_
  refine hK1 _ ?_
  refine vc_seq fun K2 hK2 => ?_
  refine vc_region ?_
  refine vo_load_varS rfl rfl rfl Try.underlying65 rfl inf65 sz65 rfl rfl ?_
  refine vo_move_pv rfl rfl ?_
  refine vo_move_pv rfl rfl ?_
  refine vo_call0 Try.func46 rfl rfl rfl rfl (implFindIn_sat hw) ?_
  rintro _ _ ⟨rfl, rfl⟩
  refine ⟨rfl, rfl, .inl rfl, ?_⟩
  refine vo_stM ?_
  refine vo_extract rfl rfl rfl ?_
  refine vo_extract rfl rfl rfl ?_
  refine vo_call0 Try.func99 rfl rfl rfl rfl memberOf_sat ?_
  rintro _ _ ⟨p, hp, rfl, rfl⟩
  refine ⟨rfl, rfl, .inl rfl, ?_⟩
  refine vo_stM ?_
  refine vo_assign_pv rfl rfl ?_
  refine vo_nil ?_
  refine hK2 _ ?_
  refine vc_ret ?_
  change retQ _ _ _ _ _
  refine retQ_sel [] (srows := []) (.inr rfl) hC rfl rfl rfl rfl rfl rfl rfl ?_
  exact ⟨_, hp, rfl, rfl⟩


theorem pairPlace_sat {nl0 : Option Bool} {pairs : List (Int × Int)} {name : Int} (hpairs : pairs.length < 1000000000)  : SatAt Try.prog 91 [.pv false (.sl nl0 2 (pairs.map pairP)), i64 name] [] (fun res rows => res = [i64 (findM name (nms pairs) 0)] ∧ rows = []) := by
  refine sat_entry_G (rs := [(4, none)]) Try.func91 rfl rfl (Nat.le_of_ble_eq_true rfl) (Nat.le_of_ble_eq_true rfl) (resTs1 trivial) fun C hC => ?_
  rw [Try.ntmps91]
  replace hC : C.nb = 0 := hC
  refine vc_seq fun K1 hK1 => ?_
  refine vc_region ?_
  refine vo_assign_pv rfl rfl ?_
  refine vo_nil ?_
  refine hK1 _ ?_
  refine vc_seq fun K2 hK2 => ?_
  refine vc_region ?_
  refine vo_move_pv rfl rfl ?_
  refine vo_call0 Try.func138 rfl rfl rfl rfl (pairNames_sat hpairs) ?_
  rintro _ _ ⟨nl9, rfl, rfl⟩
  refine ⟨rfl, rfl, .inl rfl, ?_⟩
  refine vo_stM ?_
  refine vo_move_pv rfl rfl ?_
  refine vo_call0 Try.func118 rfl rfl rfl rfl (Index_sat (s := nms pairs) (by rw [nms_len]; omega)) ?_
  rintro _ _ ⟨rfl, rfl⟩
  refine ⟨rfl, rfl, .inl rfl, ?_⟩
  refine vo_stM ?_
  refine vo_assign_pv rfl rfl ?_
  refine vo_nil ?_
  refine hK2 _ ?_
  refine vc_ret ?_
  change retQ _ _ _ _ _
  refine retQ_sel [] (srows := []) (.inr rfl) hC rfl rfl rfl rfl rfl rfl rfl ?_
  refine ⟨?_, rfl⟩
  refine (congrArg (fun b => [i64 b]) (?_ : _ = _) : [i64 _] = [i64 _])
  rfl


theorem hasObject_sat {w : WorldM} {x : Int}  (hw : SW w) : SatAt Try.prog 88 [.pv false (worldP w), i64 x] [] (fun res rows => res = [bo (decide (hasO w x))] ∧ rows = []) := by
  have hw0 := hw
  obtain ⟨⟨b1, b2⟩, ⟨a1, a2⟩, o1, o2⟩ := hw
  refine sat_entry_G (rs := [(4, none)]) Try.func88 rfl rfl (Nat.le_of_ble_eq_true rfl) (Nat.le_of_ble_eq_true rfl) (resTs1 trivial) fun C hC => ?_
  rw [Try.ntmps88]
  replace hC : C.nb = 0 := hC
  refine vc_seq fun K1 hK1 => ?_
  refine vc_region ?_
  refine vo_box rfl rfl ?_
  refine vo_stM ?_
  refine vo_assign_pv rfl rfl ?_
  refine vo_nil ?_
  refine hK1 _ ?_
  refine vc_seq fun K2 hK2 => ?_
  refine vc_region ?_
  refine vo_load_varS rfl rfl rfl Try.underlying65 rfl inf65 sz65 rfl rfl ?_
  refine vo_call0 Try.func55 rfl rfl rfl rfl (implValidWorld_sat hw0) ?_
  rintro _ _ ⟨rfl, rfl⟩
  refine ⟨rfl, rfl, .inl rfl, ?_⟩
  refine vo_stM ?_
  refine vo_move_pv rfl rfl ?_
  refine vo_split 7 rfl (fun hg1 => ?_) (fun hg1 => ?_)
  · try simp only [decide_eq_true_eq, decide_eq_false_iff_not, beq_iff_eq, bne_iff_ne, beq_eq_false_iff_ne, bne_eq_false_iff_eq, Bool.not_eq_true, Bool.not_eq_false, Bool.not_eq_eq_eq_not, Bool.not_true, Bool.not_false, List.length_map, Int.not_lt, Int.not_le, ne_eq, Decidable.not_not] at hg1
    refine vo_guard_on rfl rfl rfl ?_
    refine vo_move_pv rfl rfl ?_
    refine vo_guard_on rfl rfl rfl ?_
    refine vo_fieldAddr_ptr rfl rfl Try.underlying65 rfl inf63 (by rw [sz63]; decide) ?_
    try simp only [Nat.zero_add]
    refine vo_guard_on rfl rfl rfl ?_
    refine vo_load_var rfl rfl rfl Try.underlying63 rfl rfl ?_
    refine vo_guard_on rfl rfl rfl ?_
    refine vo_len_pv rfl rfl Try.underlying63 ?_
    refine vo_guard_on rfl rfl rfl ?_
    refine vo_binI rfl rfl rfl rfl sd ?_
    refine vo_guard_on rfl rfl rfl ?_
    refine vo_call0 Try.func108 rfl rfl rfl rfl isUpTo_sat ?_
    rintro _ _ ⟨rfl, rfl⟩
    refine ⟨rfl, rfl, .inl rfl, ?_⟩
    refine vo_stM ?_
    refine vo_pick_t rfl rfl ?_
    refine vo_assign_pv rfl rfl ?_
    refine vo_nil ?_
    refine hK2 _ ?_
    refine vc_ret ?_
    change retQ _ _ _ _ _
    refine retQ_sel [] (srows := []) (.inr rfl) hC rfl rfl rfl rfl rfl rfl rfl ?_
    refine ⟨?_, rfl⟩
    refine (congrArg (fun b => [bo b]) (?_ : _ = _) : [bo _] = [bo _])
    first
      | exact bF fun h0 => absurd h0.1 (by assumption)
      | exact decide_eq_decide.2 ⟨fun h0 => ⟨by assumption, by omega, by simp only [List.length_map] at h0; omega⟩, fun h0 => by have := h0.2; simp only [List.length_map]; omega⟩
  · try simp only [decide_eq_true_eq, decide_eq_false_iff_not, beq_iff_eq, bne_iff_ne, beq_eq_false_iff_ne, bne_eq_false_iff_eq, Bool.not_eq_true, Bool.not_eq_false, Bool.not_eq_eq_eq_not, Bool.not_true, Bool.not_false, List.length_map, Int.not_lt, Int.not_le, ne_eq, Decidable.not_not] at hg1
    refine vo_guard_off rfl rfl rfl rfl rfl ?_
    refine vo_guard_off rfl rfl rfl rfl rfl ?_
    refine vo_guard_off rfl rfl rfl rfl rfl ?_
    refine vo_guard_off rfl rfl rfl rfl rfl ?_
    refine vo_guard_off rfl rfl rfl rfl rfl ?_
    refine vo_guard_off rfl rfl rfl rfl rfl ?_
    refine vo_pick_f rfl rfl ?_
    refine vo_assign_pv rfl rfl ?_
    refine vo_nil ?_
    refine hK2 _ ?_
    refine vc_ret ?_
    change retQ _ _ _ _ _
    refine retQ_sel [] (srows := []) (.inr rfl) hC rfl rfl rfl rfl rfl rfl rfl ?_
    refine ⟨?_, rfl⟩
    refine (congrArg (fun b => [bo b]) (?_ : _ = _) : [bo _] = [bo _])
    first
      | exact bF fun h0 => absurd h0.1 (by assumption)
      | exact decide_eq_decide.2 ⟨fun h0 => ⟨by assumption, by omega, by simp only [List.length_map] at h0; omega⟩, fun h0 => by have := h0.2; simp only [List.length_map]; omega⟩


theorem validObject_sat {w : WorldM} {x : Int}  (hw : SW w) : SatAt Try.prog 84 [.pv false (worldP w), i64 x] [] (fun res rows => res = [bo (decide (hasO w x))] ∧ rows = []) := by
  have hw0 := hw
  obtain ⟨⟨b1, b2⟩, ⟨a1, a2⟩, o1, o2⟩ := hw
  refine sat_entry_G (rs := [(4, none)]) Try.func84 rfl rfl (Nat.le_of_ble_eq_true rfl) (Nat.le_of_ble_eq_true rfl) (resTs1 trivial) fun C hC => ?_
  rw [Try.ntmps84]
  replace hC : C.nb = 0 := hC
  refine vc_seq fun K1 hK1 => ?_
  refine vc_region ?_
  refine vo_box rfl rfl ?_
  refine vo_stM ?_
  refine vo_assign_pv rfl rfl ?_
  refine vo_nil ?_
  refine hK1 _ ?_
  refine vc_seq fun K2 hK2 => ?_
  refine vc_region ?_
  refine vo_load_varS rfl rfl rfl Try.underlying65 rfl inf65 sz65 rfl rfl ?_
  refine vo_call0 Try.func94 rfl rfl rfl rfl (specValidWorld0_sat hw0) ?_
  rintro _ _ ⟨rfl, rfl⟩
  refine ⟨rfl, rfl, .inl rfl, ?_⟩
  refine vo_stM ?_
  refine vo_move_pv rfl rfl ?_
  refine vo_split 7 rfl (fun hg1 => ?_) (fun hg1 => ?_)
  · try simp only [decide_eq_true_eq, decide_eq_false_iff_not, beq_iff_eq, bne_iff_ne, beq_eq_false_iff_ne, bne_eq_false_iff_eq, Bool.not_eq_true, Bool.not_eq_false, Bool.not_eq_eq_eq_not, Bool.not_true, Bool.not_false, List.length_map, Int.not_lt, Int.not_le, ne_eq, Decidable.not_not] at hg1
    refine vo_guard_on rfl rfl rfl ?_
    refine vo_move_pv rfl rfl ?_
    refine vo_guard_on rfl rfl rfl ?_
    refine vo_fieldAddr_ptr rfl rfl Try.underlying65 rfl inf63 (by rw [sz63]; decide) ?_
    try simp only [Nat.zero_add]
    refine vo_guard_on rfl rfl rfl ?_
    refine vo_load_var rfl rfl rfl Try.underlying63 rfl rfl ?_
    refine vo_guard_on rfl rfl rfl ?_
    refine vo_len_pv rfl rfl Try.underlying63 ?_
    refine vo_guard_on rfl rfl rfl ?_
    refine vo_binI rfl rfl rfl rfl sd ?_
    refine vo_guard_on rfl rfl rfl ?_
    refine vo_call0 Try.func95 rfl rfl rfl rfl inRange_sat ?_
    rintro _ _ ⟨rfl, rfl⟩
    refine ⟨rfl, rfl, .inl rfl, ?_⟩
    refine vo_stM ?_
    refine vo_pick_t rfl rfl ?_
    refine vo_assign_pv rfl rfl ?_
    refine vo_nil ?_
    refine hK2 _ ?_
    refine vc_ret ?_
    change retQ _ _ _ _ _
    refine retQ_sel [] (srows := []) (.inr rfl) hC rfl rfl rfl rfl rfl rfl rfl ?_
    refine ⟨?_, rfl⟩
    refine (congrArg (fun b => [bo b]) (?_ : _ = _) : [bo _] = [bo _])
    first
      | exact bF fun h0 => absurd h0.1 (by assumption)
      | exact decide_eq_decide.2 ⟨fun h0 => ⟨by assumption, by omega, by simp only [List.length_map] at h0; omega⟩, fun h0 => by have := h0.2; simp only [List.length_map]; omega⟩
  · try simp only [decide_eq_true_eq, decide_eq_false_iff_not, beq_iff_eq, bne_iff_ne, beq_eq_false_iff_ne, bne_eq_false_iff_eq, Bool.not_eq_true, Bool.not_eq_false, Bool.not_eq_eq_eq_not, Bool.not_true, Bool.not_false, List.length_map, Int.not_lt, Int.not_le, ne_eq, Decidable.not_not] at hg1
    refine vo_guard_off rfl rfl rfl rfl rfl ?_
    refine vo_guard_off rfl rfl rfl rfl rfl ?_
    refine vo_guard_off rfl rfl rfl rfl rfl ?_
    refine vo_guard_off rfl rfl rfl rfl rfl ?_
    refine vo_guard_off rfl rfl rfl rfl rfl ?_
    refine vo_guard_off rfl rfl rfl rfl rfl ?_
    refine vo_pick_f rfl rfl ?_
    refine vo_assign_pv rfl rfl ?_
    refine vo_nil ?_
    refine hK2 _ ?_
    refine vc_ret ?_
    change retQ _ _ _ _ _
    refine retQ_sel [] (srows := []) (.inr rfl) hC rfl rfl rfl rfl rfl rfl rfl ?_
    refine ⟨?_, rfl⟩
    refine (congrArg (fun b => [bo b]) (?_ : _ = _) : [bo _] = [bo _])
    first
      | exact bF fun h0 => absurd h0.1 (by assumption)
      | exact decide_eq_decide.2 ⟨fun h0 => ⟨by assumption, by omega, by simp only [List.length_map] at h0; omega⟩, fun h0 => by have := h0.2; simp only [List.length_map]; omega⟩


theorem implGetAttr_sat {w : WorldM} {x : Int} {name : Int}  (hw : SW w) : SatAt Try.prog 38 [.pv false (worldP w), i64 x, i64 name] [] (fun res rows => res = [.pv true (foundP (getAttrM w x name))] ∧ rows = []) := by
  have hw0 := hw
  obtain ⟨⟨b1, b2⟩, ⟨a1, a2⟩, o1, o2⟩ := hw
  refine sat_entry_G (rs := [(6, some (60, 4))]) Try.func38 rfl rfl (Nat.le_of_ble_eq_true rfl) (Nat.le_of_ble_eq_true rfl) (resTs1 ⟨_, _, Try.underlying60, rfl, inf60, sz60⟩) fun C hC => ?_
  rw [Try.ntmps38]
  replace hC : C.nb = 0 := hC
  refine vc_seq fun K1 hK1 => ?_
  refine vc_region ?_
  refine vo_box rfl rfl ?_
  refine vo_stM ?_
  refine vo_alloc Z60 rfl ?_
  refine vo_stM ?_
  refine vo_nil ?_
  refine hK1 _ ?_
  refine vc_seq fun K2 hK2 => ?_
  refine vc_seq fun K3 hK3 => ?_
  refine vc_region ?_
  refine vo_load_varS rfl rfl rfl Try.underlying65 rfl inf65 sz65 rfl rfl ?_
  refine vo_move_pv rfl rfl ?_
  refine vo_call0 Try.func88 rfl rfl rfl rfl (hasObject_sat hw0) ?_
  rintro _ _ ⟨rfl, rfl⟩
  refine ⟨rfl, rfl, .inl rfl, ?_⟩
  refine vo_stM ?_
  refine vo_not rfl rfl ?_
  refine vo_nil ?_
  refine hK3 _ ?_
  refine vc_cond rfl (fun hc1 => ?_) (fun hc1 => ?_)
  · try simp only [decide_eq_true_eq, decide_eq_false_iff_not, beq_iff_eq, bne_iff_ne, beq_eq_false_iff_ne, bne_eq_false_iff_eq, Bool.not_eq_true, Bool.not_eq_false, Bool.not_eq_eq_eq_not, Bool.not_true, Bool.not_false, List.length_map, Int.not_lt, Int.not_le, ne_eq, Decidable.not_not] at hc1
    refine vc_seq fun K4 hK4 => ?_
    refine vc_region ?_
    refine vo_call0 Try.func89 rfl rfl rfl rfl foundNothing_sat ?_
    rintro _ _ ⟨rfl, rfl⟩
    refine ⟨rfl, rfl, .inl rfl, ?_⟩
    refine vo_stM ?_
    refine vo_store_varS rfl rfl rfl inf60 sz60 rfl ?_
    refine vo_stM ?_
    refine vo_nil ?_
    refine hK4 _ ?_
    refine vc_ret ?_
    change retQ _ _ _ _ _
    refine retQ_sel [] (srows := []) (.inr rfl) hC rfl rfl rfl rfl rfl rfl rfl ?_
    refine ⟨fr_eq (?_ : FoundM.mk _ _ _ _ = _), rfl⟩
    unfold getAttrM; rw [if_neg (by assumption)]; rfl
  · try simp only [decide_eq_true_eq, decide_eq_false_iff_not, beq_iff_eq, bne_iff_ne, beq_eq_false_iff_ne, bne_eq_false_iff_eq, Bool.not_eq_true, Bool.not_eq_false, Bool.not_eq_eq_eq_not, Bool.not_true, Bool.not_false, List.length_map, Int.not_lt, Int.not_le, ne_eq, Decidable.not_not] at hc1
    have hx2 := hc1.2
    have hcl := hasO_cls hc1
    have hxl : x.toNat < w.objs.length := by have := hc1.2; omega
    have hof := getD_all o2 ⟨0, []⟩ SO_zero x.toNat
    unfold SO at hof
    have hnl := nms_lt (n := name) (l := (w.objs.getD x.toNat ⟨0, []⟩).pairs)
    refine vc_skip ?_
    refine hK2 _ ?_
    refine vc_seq fun K5 hK5 => ?_
    refine vc_region ?_
    refine vo_fieldAddr_ptr rfl rfl Try.underlying65 rfl inf63 (by rw [sz63]; decide) ?_
    try simp only [Nat.zero_add]
    refine vo_load_var rfl rfl rfl Try.underlying63 rfl rfl ?_
    refine vo_move_pv rfl rfl ?_
    refine vo_index_pv (.agg [(.int .i64 0), (.sl none 2 [])]) rfl rfl rfl E63.und inf118 sz118 sd sd ?_
    simp only [Int.toNat_natCast, Int.toNat_zero, getD_ints, getD_intss, getD_bools, getD_bytes, PV.cells, getD_ops, getD_pairs, getD_insts, getD_attrs, getD_attrss, getD_objs, getD_ordP]
    refine vo_load_adrS rfl rfl Try.underlying118 rfl inf118 sz118 rfl ?_
    refine vo_st (by (try simp only [St.put, PV.cells, PV.scal, List.drop_succ_cons, List.drop_zero, List.take_succ_cons, List.take_zero, List.map_cons, List.map_nil, Bool.or_true, Bool.or_false, Bool.false_or, Bool.true_or, opP, pairP, instP, heapP]); exact eq_refl _) ?_
    refine vo_alloc Z118 rfl ?_
    refine vo_stM ?_
    refine vo_store_varS rfl rfl rfl inf118 sz118 rfl ?_
    refine vo_stM ?_
    refine vo_nil ?_
    refine hK5 _ ?_
    refine vc_seq fun K6 hK6 => ?_
    refine vc_region ?_
    refine vo_load_varS rfl rfl rfl Try.underlying65 rfl inf65 sz65 rfl rfl ?_
    refine vo_fieldAddr_ptr rfl rfl Try.underlying118 rfl inf3 (by rw [sz3]; decide) ?_
    try simp only [Nat.zero_add]
    refine vo_load_var rfl rfl rfl Try.underlying3 rfl rfl ?_
    refine vo_move_pv rfl rfl ?_
    refine vo_call0 Try.func90 rfl rfl rfl rfl (memberIn_sat hw0) ?_
    rintro _ _ ⟨p, hp, rfl, rfl⟩
    refine ⟨rfl, rfl, .inl rfl, ?_⟩
    refine vo_stM ?_
    rcases hp with ⟨hk, rfl⟩ | ⟨hk, rfl⟩ | ⟨hk, rfl⟩ | ⟨hk, rfl⟩ | ⟨hk, rfl⟩ | ⟨hk, rfl⟩
    · skip
      refine vo_assign rfl ?_
      refine vo_stM ?_
      refine vo_nil ?_
      refine hK6 _ ?_
      refine vc_seq fun K7 hK7 => ?_
      refine vc_region ?_
      refine vo_fieldAddr_ptr rfl rfl Try.underlying118 rfl inf116 (by rw [sz116]; decide) ?_
      try simp only [Nat.zero_add]
      refine vo_load_var rfl rfl rfl Try.underlying116 rfl rfl ?_
      refine vo_move_pv rfl rfl ?_
      refine vo_call0 Try.func91 rfl rfl rfl rfl (pairPlace_sat (by omega)) ?_
      rintro _ _ ⟨rfl, rfl⟩
      refine ⟨rfl, rfl, .inl rfl, ?_⟩
      refine vo_stM ?_
      refine vo_assign_pv rfl rfl ?_
      refine vo_nil ?_
      refine hK7 _ ?_
      refine vc_seq fun K8 hK8 => ?_
      refine vc_seq fun K9 hK9 => ?_
      refine vc_region ?_
      refine vo_move rfl ?_
      refine vo_stM ?_
      refine vo_assert_no rfl rfl Try.underlying124 inf178 (by kernel_rfl) (fun w => by kernel_rfl) ?_
      refine vo_stM ?_
      refine vo_move rfl ?_
      refine vo_stM ?_
      refine vo_extract rfl rfl rfl ?_
      refine vo_extract rfl rfl rfl ?_
      refine vo_assign_pv rfl rfl ?_
      refine vo_assign_pv rfl rfl ?_
      refine vo_nil ?_
      refine hK9 _ ?_
      refine vc_seq fun K10 hK10 => ?_
      refine vc_region ?_
      refine vo_move_pv rfl rfl ?_
      refine vo_move_pv rfl rfl ?_
      refine vo_guard_on rfl rfl rfl ?_
      refine vo_move_pv rfl rfl ?_
      refine vo_guard_on rfl rfl rfl ?_
      refine vo_binI rfl rfl rfl rfl trivial ?_
      refine vo_pick_f rfl rfl ?_
      refine vo_nil ?_
      refine hK10 _ ?_
      refine vc_cond rfl (fun hc2 => ?_) (fun hc2 => ?_)
      · try simp only [decide_eq_true_eq, decide_eq_false_iff_not, beq_iff_eq, bne_iff_ne, beq_eq_false_iff_ne, bne_eq_false_iff_eq, Bool.not_eq_true, Bool.not_eq_false, Bool.not_eq_eq_eq_not, Bool.not_true, Bool.not_false, List.length_map, Int.not_lt, Int.not_le, ne_eq, Decidable.not_not] at hc2
        refine vc_seq fun K11 hK11 => ?_
        refine vc_region ?_
        refine vo_move rfl ?_
        refine vo_stM ?_
        refine vo_move_pv rfl rfl ?_
        refine vo_fieldAddr_ptr rfl rfl Try.underlying118 rfl inf3 (by rw [sz3]; decide) ?_
        try simp only [Nat.zero_add]
        refine vo_load_var rfl rfl rfl Try.underlying3 rfl rfl ?_
        refine vo_invoke [] rfl (mth178_byObject) Try.func211 rfl rfl rfl rfl rfl rfl rfl noByObject_sat ?_
        rintro _ _ ⟨rfl, rfl⟩
        refine ⟨Nat.le_of_ble_eq_true rfl, ⟨rfl, rfl, rfl, rfl⟩, .inl rfl, ?_⟩
        refine vo_stM ?_
        refine vo_store_varS rfl rfl rfl inf60 sz60 rfl ?_
        refine vo_stM ?_
        refine vo_nil ?_
        refine hK11 _ ?_
        refine vc_ret ?_
        change retQ _ _ _ _ _
        refine retQ_sel [] (srows := []) (.inr rfl) hC rfl rfl rfl rfl rfl rfl rfl ?_
        refine ⟨fr_eq (?_ : FoundM.mk _ _ _ _ = _), rfl⟩
        rw [getAttrM_yes hc1]
        unfold getR bindM none0
        repeat' split
        all_goals first | rfl | (exfalso; omega) | (simp only [FoundM.mk.injEq]; omega)
      · try simp only [decide_eq_true_eq, decide_eq_false_iff_not, beq_iff_eq, bne_iff_ne, beq_eq_false_iff_ne, bne_eq_false_iff_eq, Bool.not_eq_true, Bool.not_eq_false, Bool.not_eq_eq_eq_not, Bool.not_true, Bool.not_false, List.length_map, Int.not_lt, Int.not_le, ne_eq, Decidable.not_not] at hc2
        refine vc_skip ?_
        refine hK8 _ ?_
        refine vc_seq fun K12 hK12 => ?_
        refine vc_region ?_
        refine vo_fieldAddr_ptr rfl rfl Try.underlying118 rfl inf116 (by rw [sz116]; decide) ?_
        try simp only [Nat.zero_add]
        refine vo_load_var rfl rfl rfl Try.underlying116 rfl rfl ?_
        refine vo_move_pv rfl rfl ?_
        refine vo_index_pv (.agg [(.int .i64 0), (.int .i64 0)]) rfl rfl rfl E116.und inf128 sz128 sd sd ?_
        simp only [Int.toNat_natCast, Int.toNat_zero, getD_ints, getD_intss, getD_bools, getD_bytes, PV.cells, getD_ops, getD_pairs, getD_insts, getD_attrs, getD_attrss, getD_objs, getD_ordP]
        refine vo_fieldAddr_adr rfl rfl Try.underlying128 rfl inf3 (by rw [sz3]; decide) ?_
        refine vo_load_adr rfl rfl Try.underlying3 rfl ?_
        refine vo_move_pv rfl rfl ?_
        refine vo_build S60 rfl rfl rfl ?_
        refine vo_stM ?_
        refine vo_store_varS rfl rfl rfl inf60 sz60 rfl ?_
        refine vo_stM ?_
        refine vo_nil ?_
        refine hK12 _ ?_
        refine vc_ret ?_
        change retQ _ _ _ _ _
        refine retQ_sel [] (srows := []) (.inr rfl) hC rfl rfl rfl rfl rfl rfl rfl ?_
        refine ⟨fr_eq (?_ : FoundM.mk _ _ _ _ = _), rfl⟩
        rw [getAttrM_yes hc1]
        unfold getR bindM none0
        repeat' split
        all_goals first | rfl | (exfalso; omega) | (simp only [FoundM.mk.injEq]; omega)
    · skip
      refine vo_assign rfl ?_
      refine vo_stM ?_
      refine vo_nil ?_
      refine hK6 _ ?_
      refine vc_seq fun K13 hK13 => ?_
      refine vc_region ?_
      refine vo_fieldAddr_ptr rfl rfl Try.underlying118 rfl inf116 (by rw [sz116]; decide) ?_
      try simp only [Nat.zero_add]
      refine vo_load_var rfl rfl rfl Try.underlying116 rfl rfl ?_
      refine vo_move_pv rfl rfl ?_
      refine vo_call0 Try.func91 rfl rfl rfl rfl (pairPlace_sat (by omega)) ?_
      rintro _ _ ⟨rfl, rfl⟩
      refine ⟨rfl, rfl, .inl rfl, ?_⟩
      refine vo_stM ?_
      refine vo_assign_pv rfl rfl ?_
      refine vo_nil ?_
      refine hK13 _ ?_
      refine vc_seq fun K14 hK14 => ?_
      refine vc_seq fun K15 hK15 => ?_
      refine vc_region ?_
      refine vo_move rfl ?_
      refine vo_stM ?_
      refine vo_assert_no rfl rfl Try.underlying124 inf180 (by kernel_rfl) (fun w => by kernel_rfl) ?_
      refine vo_stM ?_
      refine vo_move rfl ?_
      refine vo_stM ?_
      refine vo_extract rfl rfl rfl ?_
      refine vo_extract rfl rfl rfl ?_
      refine vo_assign_pv rfl rfl ?_
      refine vo_assign_pv rfl rfl ?_
      refine vo_nil ?_
      refine hK15 _ ?_
      refine vc_seq fun K16 hK16 => ?_
      refine vc_region ?_
      refine vo_move_pv rfl rfl ?_
      refine vo_move_pv rfl rfl ?_
      refine vo_guard_on rfl rfl rfl ?_
      refine vo_move_pv rfl rfl ?_
      refine vo_guard_on rfl rfl rfl ?_
      refine vo_binI rfl rfl rfl rfl trivial ?_
      refine vo_pick_f rfl rfl ?_
      refine vo_nil ?_
      refine hK16 _ ?_
      refine vc_cond rfl (fun hc3 => ?_) (fun hc3 => ?_)
      · try simp only [decide_eq_true_eq, decide_eq_false_iff_not, beq_iff_eq, bne_iff_ne, beq_eq_false_iff_ne, bne_eq_false_iff_eq, Bool.not_eq_true, Bool.not_eq_false, Bool.not_eq_eq_eq_not, Bool.not_true, Bool.not_false, List.length_map, Int.not_lt, Int.not_le, ne_eq, Decidable.not_not] at hc3
        refine vc_seq fun K17 hK17 => ?_
        refine vc_region ?_
        refine vo_move rfl ?_
        refine vo_stM ?_
        refine vo_move_pv rfl rfl ?_
        refine vo_fieldAddr_ptr rfl rfl Try.underlying118 rfl inf3 (by rw [sz3]; decide) ?_
        try simp only [Nat.zero_add]
        refine vo_load_var rfl rfl rfl Try.underlying3 rfl rfl ?_
        refine vo_invoke [] rfl (mth180_byObject _ _ _ _) Try.func213 rfl rfl rfl rfl rfl rfl rfl (plainByObject_sat (o := _) (a := ⟨_, _, _⟩)) ?_
        rintro _ _ ⟨rfl, rfl⟩
        refine ⟨Nat.le_of_ble_eq_true rfl, ⟨rfl, rfl, rfl, rfl⟩, .inl rfl, ?_⟩
        refine vo_stM ?_
        refine vo_store_varS rfl rfl rfl inf60 sz60 rfl ?_
        refine vo_stM ?_
        refine vo_nil ?_
        refine hK17 _ ?_
        refine vc_ret ?_
        change retQ _ _ _ _ _
        refine retQ_sel [] (srows := []) (.inr rfl) hC rfl rfl rfl rfl rfl rfl rfl ?_
        refine ⟨fr_eq (?_ : FoundM.mk _ _ _ _ = _), rfl⟩
        rw [getAttrM_yes hc1]
        unfold getR bindM none0
        repeat' split
        all_goals first | rfl | (exfalso; omega) | (simp only [FoundM.mk.injEq]; omega)
      · try simp only [decide_eq_true_eq, decide_eq_false_iff_not, beq_iff_eq, bne_iff_ne, beq_eq_false_iff_ne, bne_eq_false_iff_eq, Bool.not_eq_true, Bool.not_eq_false, Bool.not_eq_eq_eq_not, Bool.not_true, Bool.not_false, List.length_map, Int.not_lt, Int.not_le, ne_eq, Decidable.not_not] at hc3
        refine vc_skip ?_
        refine hK14 _ ?_
        refine vc_seq fun K18 hK18 => ?_
        refine vc_region ?_
        refine vo_fieldAddr_ptr rfl rfl Try.underlying118 rfl inf116 (by rw [sz116]; decide) ?_
        try simp only [Nat.zero_add]
        refine vo_load_var rfl rfl rfl Try.underlying116 rfl rfl ?_
        refine vo_move_pv rfl rfl ?_
        refine vo_index_pv (.agg [(.int .i64 0), (.int .i64 0)]) rfl rfl rfl E116.und inf128 sz128 sd sd ?_
        simp only [Int.toNat_natCast, Int.toNat_zero, getD_ints, getD_intss, getD_bools, getD_bytes, PV.cells, getD_ops, getD_pairs, getD_insts, getD_attrs, getD_attrss, getD_objs, getD_ordP]
        refine vo_fieldAddr_adr rfl rfl Try.underlying128 rfl inf3 (by rw [sz3]; decide) ?_
        refine vo_load_adr rfl rfl Try.underlying3 rfl ?_
        refine vo_move_pv rfl rfl ?_
        refine vo_build S60 rfl rfl rfl ?_
        refine vo_stM ?_
        refine vo_store_varS rfl rfl rfl inf60 sz60 rfl ?_
        refine vo_stM ?_
        refine vo_nil ?_
        refine hK18 _ ?_
        refine vc_ret ?_
        change retQ _ _ _ _ _
        refine retQ_sel [] (srows := []) (.inr rfl) hC rfl rfl rfl rfl rfl rfl rfl ?_
        refine ⟨fr_eq (?_ : FoundM.mk _ _ _ _ = _), rfl⟩
        rw [getAttrM_yes hc1]
        unfold getR bindM none0
        repeat' split
        all_goals first | rfl | (exfalso; omega) | (simp only [FoundM.mk.injEq]; omega)
    · skip
      refine vo_assign rfl ?_
      refine vo_stM ?_
      refine vo_nil ?_
      refine hK6 _ ?_
      refine vc_seq fun K19 hK19 => ?_
      refine vc_region ?_
      refine vo_fieldAddr_ptr rfl rfl Try.underlying118 rfl inf116 (by rw [sz116]; decide) ?_
      try simp only [Nat.zero_add]
      refine vo_load_var rfl rfl rfl Try.underlying116 rfl rfl ?_
      refine vo_move_pv rfl rfl ?_
      refine vo_call0 Try.func91 rfl rfl rfl rfl (pairPlace_sat (by omega)) ?_
      rintro _ _ ⟨rfl, rfl⟩
      refine ⟨rfl, rfl, .inl rfl, ?_⟩
      refine vo_stM ?_
      refine vo_assign_pv rfl rfl ?_
      refine vo_nil ?_
      refine hK19 _ ?_
      refine vc_seq fun K20 hK20 => ?_
      refine vc_seq fun K21 hK21 => ?_
      refine vc_region ?_
      refine vo_move rfl ?_
      refine vo_stM ?_
      refine vo_assert_no rfl rfl Try.underlying124 inf182 (by kernel_rfl) (fun w => by kernel_rfl) ?_
      refine vo_stM ?_
      refine vo_move rfl ?_
      refine vo_stM ?_
      refine vo_extract rfl rfl rfl ?_
      refine vo_extract rfl rfl rfl ?_
      refine vo_assign_pv rfl rfl ?_
      refine vo_assign_pv rfl rfl ?_
      refine vo_nil ?_
      refine hK21 _ ?_
      refine vc_seq fun K22 hK22 => ?_
      refine vc_region ?_
      refine vo_move_pv rfl rfl ?_
      refine vo_move_pv rfl rfl ?_
      refine vo_guard_on rfl rfl rfl ?_
      refine vo_move_pv rfl rfl ?_
      refine vo_guard_on rfl rfl rfl ?_
      refine vo_binI rfl rfl rfl rfl trivial ?_
      refine vo_pick_f rfl rfl ?_
      refine vo_nil ?_
      refine hK22 _ ?_
      refine vc_cond rfl (fun hc4 => ?_) (fun hc4 => ?_)
      · try simp only [decide_eq_true_eq, decide_eq_false_iff_not, beq_iff_eq, bne_iff_ne, beq_eq_false_iff_ne, bne_eq_false_iff_eq, Bool.not_eq_true, Bool.not_eq_false, Bool.not_eq_eq_eq_not, Bool.not_true, Bool.not_false, List.length_map, Int.not_lt, Int.not_le, ne_eq, Decidable.not_not] at hc4
        refine vc_seq fun K23 hK23 => ?_
        refine vc_region ?_
        refine vo_move rfl ?_
        refine vo_stM ?_
        refine vo_move_pv rfl rfl ?_
        refine vo_fieldAddr_ptr rfl rfl Try.underlying118 rfl inf3 (by rw [sz3]; decide) ?_
        try simp only [Nat.zero_add]
        refine vo_load_var rfl rfl rfl Try.underlying3 rfl rfl ?_
        refine vo_invoke [] rfl (mth182_byObject _ _ _ _) Try.func215 rfl rfl rfl rfl rfl rfl rfl (methodByObject_sat (o := _) (a := ⟨_, _, _⟩)) ?_
        rintro _ _ ⟨rfl, rfl⟩
        refine ⟨Nat.le_of_ble_eq_true rfl, ⟨rfl, rfl, rfl, rfl⟩, .inl rfl, ?_⟩
        refine vo_stM ?_
        refine vo_store_varS rfl rfl rfl inf60 sz60 rfl ?_
        refine vo_stM ?_
        refine vo_nil ?_
        refine hK23 _ ?_
        refine vc_ret ?_
        change retQ _ _ _ _ _
        refine retQ_sel [] (srows := []) (.inr rfl) hC rfl rfl rfl rfl rfl rfl rfl ?_
        refine ⟨fr_eq (?_ : FoundM.mk _ _ _ _ = _), rfl⟩
        rw [getAttrM_yes hc1]
        unfold getR bindM none0
        repeat' split
        all_goals first | rfl | (exfalso; omega) | (simp only [FoundM.mk.injEq]; omega)
      · try simp only [decide_eq_true_eq, decide_eq_false_iff_not, beq_iff_eq, bne_iff_ne, beq_eq_false_iff_ne, bne_eq_false_iff_eq, Bool.not_eq_true, Bool.not_eq_false, Bool.not_eq_eq_eq_not, Bool.not_true, Bool.not_false, List.length_map, Int.not_lt, Int.not_le, ne_eq, Decidable.not_not] at hc4
        refine vc_skip ?_
        refine hK20 _ ?_
        refine vc_seq fun K24 hK24 => ?_
        refine vc_region ?_
        refine vo_fieldAddr_ptr rfl rfl Try.underlying118 rfl inf116 (by rw [sz116]; decide) ?_
        try simp only [Nat.zero_add]
        refine vo_load_var rfl rfl rfl Try.underlying116 rfl rfl ?_
        refine vo_move_pv rfl rfl ?_
        refine vo_index_pv (.agg [(.int .i64 0), (.int .i64 0)]) rfl rfl rfl E116.und inf128 sz128 sd sd ?_
        simp only [Int.toNat_natCast, Int.toNat_zero, getD_ints, getD_intss, getD_bools, getD_bytes, PV.cells, getD_ops, getD_pairs, getD_insts, getD_attrs, getD_attrss, getD_objs, getD_ordP]
        refine vo_fieldAddr_adr rfl rfl Try.underlying128 rfl inf3 (by rw [sz3]; decide) ?_
        refine vo_load_adr rfl rfl Try.underlying3 rfl ?_
        refine vo_move_pv rfl rfl ?_
        refine vo_build S60 rfl rfl rfl ?_
        refine vo_stM ?_
        refine vo_store_varS rfl rfl rfl inf60 sz60 rfl ?_
        refine vo_stM ?_
        refine vo_nil ?_
        refine hK24 _ ?_
        refine vc_ret ?_
        change retQ _ _ _ _ _
        refine retQ_sel [] (srows := []) (.inr rfl) hC rfl rfl rfl rfl rfl rfl rfl ?_
        refine ⟨fr_eq (?_ : FoundM.mk _ _ _ _ = _), rfl⟩
        rw [getAttrM_yes hc1]
        unfold getR bindM none0
        repeat' split
        all_goals first | rfl | (exfalso; omega) | (simp only [FoundM.mk.injEq]; omega)
    · skip
      refine vo_assign rfl ?_
      refine vo_stM ?_
      refine vo_nil ?_
      refine hK6 _ ?_
      refine vc_seq fun K25 hK25 => ?_
      refine vc_region ?_
      refine vo_fieldAddr_ptr rfl rfl Try.underlying118 rfl inf116 (by rw [sz116]; decide) ?_
      try simp only [Nat.zero_add]
      refine vo_load_var rfl rfl rfl Try.underlying116 rfl rfl ?_
      refine vo_move_pv rfl rfl ?_
      refine vo_call0 Try.func91 rfl rfl rfl rfl (pairPlace_sat (by omega)) ?_
      rintro _ _ ⟨rfl, rfl⟩
      refine ⟨rfl, rfl, .inl rfl, ?_⟩
      refine vo_stM ?_
      refine vo_assign_pv rfl rfl ?_
      refine vo_nil ?_
      refine hK25 _ ?_
      refine vc_seq fun K26 hK26 => ?_
      refine vc_seq fun K27 hK27 => ?_
      refine vc_region ?_
      refine vo_move rfl ?_
      refine vo_stM ?_
      refine vo_assert_yes rfl rfl Try.underlying124 inf183 (by kernel_rfl) ?_
      refine vo_stM ?_
      refine vo_move rfl ?_
      refine vo_stM ?_
      refine vo_extract rfl rfl rfl ?_
      refine vo_extract rfl rfl rfl ?_
      refine vo_assign rfl ?_
      refine vo_stM ?_
      refine vo_assign_pv rfl rfl ?_
      refine vo_nil ?_
      refine hK27 _ ?_
      refine vc_seq fun K28 hK28 => ?_
      refine vc_region ?_
      refine vo_move_pv rfl rfl ?_
      refine vo_move_pv rfl rfl ?_
      refine vo_guard_off rfl rfl rfl rfl rfl ?_
      refine vo_guard_off rfl rfl rfl rfl rfl ?_
      refine vo_pick_t rfl rfl ?_
      refine vo_nil ?_
      refine hK28 _ ?_
      refine vc_cond_t rfl ?_
      refine vc_seq fun K29 hK29 => ?_
      refine vc_region ?_
      refine vo_move rfl ?_
      refine vo_stM ?_
      refine vo_move_pv rfl rfl ?_
      refine vo_fieldAddr_ptr rfl rfl Try.underlying118 rfl inf3 (by rw [sz3]; decide) ?_
      try simp only [Nat.zero_add]
      refine vo_load_var rfl rfl rfl Try.underlying3 rfl rfl ?_
      refine vo_invoke [] rfl (mth183_byObject _ _ _ _) Try.func216 rfl rfl rfl rfl rfl rfl rfl (fixedByObject_sat (o := _) (a := ⟨_, _, _⟩)) ?_
      rintro _ _ ⟨rfl, rfl⟩
      refine ⟨Nat.le_of_ble_eq_true rfl, ⟨rfl, rfl, rfl, rfl⟩, .inl rfl, ?_⟩
      refine vo_stM ?_
      refine vo_store_varS rfl rfl rfl inf60 sz60 rfl ?_
      refine vo_stM ?_
      refine vo_nil ?_
      refine hK29 _ ?_
      refine vc_ret ?_
      change retQ _ _ _ _ _
      refine retQ_sel [] (srows := []) (.inr rfl) hC rfl rfl rfl rfl rfl rfl rfl ?_
      refine ⟨fr_eq (?_ : FoundM.mk _ _ _ _ = _), rfl⟩
      rw [getAttrM_yes hc1]
      unfold getR bindM none0
      repeat' split
      all_goals first | rfl | (exfalso; omega) | (simp only [FoundM.mk.injEq]; omega)
    · skip
      refine vo_assign rfl ?_
      refine vo_stM ?_
      refine vo_nil ?_
      refine hK6 _ ?_
      refine vc_seq fun K30 hK30 => ?_
      refine vc_region ?_
      refine vo_fieldAddr_ptr rfl rfl Try.underlying118 rfl inf116 (by rw [sz116]; decide) ?_
      try simp only [Nat.zero_add]
      refine vo_load_var rfl rfl rfl Try.underlying116 rfl rfl ?_
      refine vo_move_pv rfl rfl ?_
      refine vo_call0 Try.func91 rfl rfl rfl rfl (pairPlace_sat (by omega)) ?_
      rintro _ _ ⟨rfl, rfl⟩
      refine ⟨rfl, rfl, .inl rfl, ?_⟩
      refine vo_stM ?_
      refine vo_assign_pv rfl rfl ?_
      refine vo_nil ?_
      refine hK30 _ ?_
      refine vc_seq fun K31 hK31 => ?_
      refine vc_seq fun K32 hK32 => ?_
      refine vc_region ?_
      refine vo_move rfl ?_
      refine vo_stM ?_
      refine vo_assert_yes rfl rfl Try.underlying124 inf185 (by kernel_rfl) ?_
      refine vo_stM ?_
      refine vo_move rfl ?_
      refine vo_stM ?_
      refine vo_extract rfl rfl rfl ?_
      refine vo_extract rfl rfl rfl ?_
      refine vo_assign rfl ?_
      refine vo_stM ?_
      refine vo_assign_pv rfl rfl ?_
      refine vo_nil ?_
      refine hK32 _ ?_
      refine vc_seq fun K33 hK33 => ?_
      refine vc_region ?_
      refine vo_move_pv rfl rfl ?_
      refine vo_move_pv rfl rfl ?_
      refine vo_guard_off rfl rfl rfl rfl rfl ?_
      refine vo_guard_off rfl rfl rfl rfl rfl ?_
      refine vo_pick_t rfl rfl ?_
      refine vo_nil ?_
      refine hK33 _ ?_
      refine vc_cond_t rfl ?_
      refine vc_seq fun K34 hK34 => ?_
      refine vc_region ?_
      refine vo_move rfl ?_
      refine vo_stM ?_
      refine vo_move_pv rfl rfl ?_
      refine vo_fieldAddr_ptr rfl rfl Try.underlying118 rfl inf3 (by rw [sz3]; decide) ?_
      try simp only [Nat.zero_add]
      refine vo_load_var rfl rfl rfl Try.underlying3 rfl rfl ?_
      refine vo_invoke [] rfl (mth185_byObject _ _ _ _) Try.func216 rfl rfl rfl rfl rfl rfl rfl (fixedByObject_sat (o := _) (a := ⟨_, _, _⟩)) ?_
      rintro _ _ ⟨rfl, rfl⟩
      refine ⟨Nat.le_of_ble_eq_true rfl, ⟨rfl, rfl, rfl, rfl⟩, .inl rfl, ?_⟩
      refine vo_stM ?_
      refine vo_store_varS rfl rfl rfl inf60 sz60 rfl ?_
      refine vo_stM ?_
      refine vo_nil ?_
      refine hK34 _ ?_
      refine vc_ret ?_
      change retQ _ _ _ _ _
      refine retQ_sel [] (srows := []) (.inr rfl) hC rfl rfl rfl rfl rfl rfl rfl ?_
      refine ⟨fr_eq (?_ : FoundM.mk _ _ _ _ = _), rfl⟩
      rw [getAttrM_yes hc1]
      unfold getR bindM none0
      repeat' split
      all_goals first | rfl | (exfalso; omega) | (simp only [FoundM.mk.injEq]; omega)
    · skip
      refine vo_assign rfl ?_
      refine vo_stM ?_
      refine vo_nil ?_
      refine hK6 _ ?_
      refine vc_seq fun K35 hK35 => ?_
      refine vc_region ?_
      refine vo_fieldAddr_ptr rfl rfl Try.underlying118 rfl inf116 (by rw [sz116]; decide) ?_
      try simp only [Nat.zero_add]
      refine vo_load_var rfl rfl rfl Try.underlying116 rfl rfl ?_
      refine vo_move_pv rfl rfl ?_
      refine vo_call0 Try.func91 rfl rfl rfl rfl (pairPlace_sat (by omega)) ?_
      rintro _ _ ⟨rfl, rfl⟩
      refine ⟨rfl, rfl, .inl rfl, ?_⟩
      refine vo_stM ?_
      refine vo_assign_pv rfl rfl ?_
      refine vo_nil ?_
      refine hK35 _ ?_
      refine vc_seq fun K36 hK36 => ?_
      refine vc_seq fun K37 hK37 => ?_
      refine vc_region ?_
      refine vo_move rfl ?_
      refine vo_stM ?_
      refine vo_assert_no rfl rfl Try.underlying124 inf186 (by kernel_rfl) (fun w => by kernel_rfl) ?_
      refine vo_stM ?_
      refine vo_move rfl ?_
      refine vo_stM ?_
      refine vo_extract rfl rfl rfl ?_
      refine vo_extract rfl rfl rfl ?_
      refine vo_assign_pv rfl rfl ?_
      refine vo_assign_pv rfl rfl ?_
      refine vo_nil ?_
      refine hK37 _ ?_
      refine vc_seq fun K38 hK38 => ?_
      refine vc_region ?_
      refine vo_move_pv rfl rfl ?_
      refine vo_move_pv rfl rfl ?_
      refine vo_guard_on rfl rfl rfl ?_
      refine vo_move_pv rfl rfl ?_
      refine vo_guard_on rfl rfl rfl ?_
      refine vo_binI rfl rfl rfl rfl trivial ?_
      refine vo_pick_f rfl rfl ?_
      refine vo_nil ?_
      refine hK38 _ ?_
      refine vc_cond rfl (fun hc5 => ?_) (fun hc5 => ?_)
      · try simp only [decide_eq_true_eq, decide_eq_false_iff_not, beq_iff_eq, bne_iff_ne, beq_eq_false_iff_ne, bne_eq_false_iff_eq, Bool.not_eq_true, Bool.not_eq_false, Bool.not_eq_eq_eq_not, Bool.not_true, Bool.not_false, List.length_map, Int.not_lt, Int.not_le, ne_eq, Decidable.not_not] at hc5
        refine vc_seq fun K39 hK39 => ?_
        refine vc_region ?_
        refine vo_move rfl ?_
        refine vo_stM ?_
        refine vo_move_pv rfl rfl ?_
        refine vo_fieldAddr_ptr rfl rfl Try.underlying118 rfl inf3 (by rw [sz3]; decide) ?_
        try simp only [Nat.zero_add]
        refine vo_load_var rfl rfl rfl Try.underlying3 rfl rfl ?_
        refine vo_invoke [] rfl (mth186_byObject _ _ _ _) Try.func220 rfl rfl rfl rfl rfl rfl rfl (classByObject_sat (o := _) (a := ⟨_, _, _⟩)) ?_
        rintro _ _ ⟨rfl, rfl⟩
        refine ⟨Nat.le_of_ble_eq_true rfl, ⟨rfl, rfl, rfl, rfl⟩, .inl rfl, ?_⟩
        refine vo_stM ?_
        refine vo_store_varS rfl rfl rfl inf60 sz60 rfl ?_
        refine vo_stM ?_
        refine vo_nil ?_
        refine hK39 _ ?_
        refine vc_ret ?_
        change retQ _ _ _ _ _
        refine retQ_sel [] (srows := []) (.inr rfl) hC rfl rfl rfl rfl rfl rfl rfl ?_
        refine ⟨fr_eq (?_ : FoundM.mk _ _ _ _ = _), rfl⟩
        rw [getAttrM_yes hc1]
        unfold getR bindM none0
        repeat' split
        all_goals first | rfl | (exfalso; omega) | (simp only [FoundM.mk.injEq]; omega)
      · try simp only [decide_eq_true_eq, decide_eq_false_iff_not, beq_iff_eq, bne_iff_ne, beq_eq_false_iff_ne, bne_eq_false_iff_eq, Bool.not_eq_true, Bool.not_eq_false, Bool.not_eq_eq_eq_not, Bool.not_true, Bool.not_false, List.length_map, Int.not_lt, Int.not_le, ne_eq, Decidable.not_not] at hc5
        refine vc_skip ?_
        refine hK36 _ ?_
        refine vc_seq fun K40 hK40 => ?_
        refine vc_region ?_
        refine vo_fieldAddr_ptr rfl rfl Try.underlying118 rfl inf116 (by rw [sz116]; decide) ?_
        try simp only [Nat.zero_add]
        refine vo_load_var rfl rfl rfl Try.underlying116 rfl rfl ?_
        refine vo_move_pv rfl rfl ?_
        refine vo_index_pv (.agg [(.int .i64 0), (.int .i64 0)]) rfl rfl rfl E116.und inf128 sz128 sd sd ?_
        simp only [Int.toNat_natCast, Int.toNat_zero, getD_ints, getD_intss, getD_bools, getD_bytes, PV.cells, getD_ops, getD_pairs, getD_insts, getD_attrs, getD_attrss, getD_objs, getD_ordP]
        refine vo_fieldAddr_adr rfl rfl Try.underlying128 rfl inf3 (by rw [sz3]; decide) ?_
        refine vo_load_adr rfl rfl Try.underlying3 rfl ?_
        refine vo_move_pv rfl rfl ?_
        refine vo_build S60 rfl rfl rfl ?_
        refine vo_stM ?_
        refine vo_store_varS rfl rfl rfl inf60 sz60 rfl ?_
        refine vo_stM ?_
        refine vo_nil ?_
        refine hK40 _ ?_
        refine vc_ret ?_
        change retQ _ _ _ _ _
        refine retQ_sel [] (srows := []) (.inr rfl) hC rfl rfl rfl rfl rfl rfl rfl ?_
        refine ⟨fr_eq (?_ : FoundM.mk _ _ _ _ = _), rfl⟩
        rw [getAttrM_yes hc1]
        unfold getR bindM none0
        repeat' split
        all_goals first | rfl | (exfalso; omega) | (simp only [FoundM.mk.injEq]; omega)


end Go.Vl

namespace Go.Vl
set_option linter.unusedVariables false
set_option linter.unusedSimpArgs false
open Go.Proofs

theorem bind_sat {ow : Int} {a : AttrM} {obj : Int} {c : Int}   : SatAt Try.prog 97 [i64 ow, .pv false (attrP a), i64 obj, i64 c] [] (fun res rows => res = [.pv true (foundP (bindM ow a obj c))] ∧ rows = []) := by
  refine sat_entry_G (rs := [(8, some (60, 4))]) Try.func97 rfl rfl (Nat.le_of_ble_eq_true rfl) (Nat.le_of_ble_eq_true rfl) (resTs1 ⟨_, _, Try.underlying60, rfl, inf60, sz60⟩) fun C hC => ?_
  rw [Try.ntmps97]
  replace hC : C.nb = 0 := hC
  refine vc_seq fun K1 hK1 => ?_
  refine vc_region ?_
  refine vo_box rfl rfl ?_
  refine vo_stM ?_
  refine vo_alloc Z60 rfl ?_
  refine vo_stM ?_
  refine vo_nil ?_
  refine hK1 _ ?_
  refine vc_seq fun K2 hK2 => ?_
  refine vc_region ?_
  refine vo_move_pv rfl rfl ?_
  refine vo_fieldAddr_ptr rfl rfl Try.underlying73 rfl inf3 (by rw [sz3]; decide) ?_
  try simp only [Nat.zero_add]
  refine vo_load_var rfl rfl rfl Try.underlying3 rfl rfl ?_
  refine vo_build S60 rfl rfl rfl ?_
  refine vo_stM ?_
  refine vo_alloc Z60 rfl ?_
  refine vo_stM ?_
  refine vo_store_varS rfl rfl rfl inf60 sz60 rfl ?_
  refine vo_stM ?_
  refine vo_nil ?_
  refine hK2 _ ?_
  refine vc_seq fun K3 hK3 => ?_
  refine vc_seq fun K4 hK4 => ?_
  refine vc_region ?_
  refine vo_fieldAddr_ptr rfl rfl Try.underlying73 rfl inf3 (by rw [sz3]; decide) ?_
  try simp only [Nat.zero_add]
  refine vo_load_var rfl rfl rfl Try.underlying3 rfl rfl ?_
  refine vo_nil ?_
  refine hK4 _ ?_
  refine vc_block ?_
  refine vc_seq fun K5 hK5 => ?_
  refine vc_region ?_
  refine vo_binI rfl rfl rfl rfl trivial ?_
  refine vo_assign_pv rfl rfl ?_
  refine vo_nil ?_
  refine hK5 _ ?_
  refine vc_cond rfl (fun hc1 => ?_) (fun hc1 => ?_)
  · try simp only [decide_eq_true_eq, decide_eq_false_iff_not, beq_iff_eq, bne_iff_ne, beq_eq_false_iff_ne, bne_eq_false_iff_eq, Bool.not_eq_true, Bool.not_eq_false, Bool.not_eq_eq_eq_not, Bool.not_true, Bool.not_false, List.length_map, Int.not_lt, Int.not_le, ne_eq, Decidable.not_not] at hc1
    refine vc_region ?_
    refine vo_move_pv rfl rfl ?_
    refine vo_fieldAddr_ptr rfl rfl Try.underlying60 rfl inf3 (by rw [sz3]; decide) ?_
    try simp only [Nat.zero_add]
    refine vo_store_var rfl rfl rfl rfl inf3 sz3 rfl ?_
    refine vo_stM ?_
    refine vo_nil ?_
    refine hK3 _ ?_
    refine vc_seq fun K6 hK6 => ?_
    refine vc_seq fun K7 hK7 => ?_
    refine vc_region ?_
    refine vo_fieldAddr_ptr rfl rfl Try.underlying73 rfl inf3 (by rw [sz3]; decide) ?_
    try simp only [Nat.zero_add]
    refine vo_load_var rfl rfl rfl Try.underlying3 rfl rfl ?_
    refine vo_binI rfl rfl rfl rfl trivial ?_
    refine vo_move_pv rfl rfl ?_
    refine vo_split 36 rfl (fun hg2 => ?_) (fun hg2 => ?_)
    · try simp only [decide_eq_true_eq, decide_eq_false_iff_not, beq_iff_eq, bne_iff_ne, beq_eq_false_iff_ne, bne_eq_false_iff_eq, Bool.not_eq_true, Bool.not_eq_false, Bool.not_eq_eq_eq_not, Bool.not_true, Bool.not_false, List.length_map, Int.not_lt, Int.not_le, ne_eq, Decidable.not_not] at hg2
      refine vo_guard_on rfl rfl rfl ?_
      refine vo_move_pv rfl rfl ?_
      refine vo_guard_on rfl rfl rfl ?_
      refine vo_binI rfl rfl rfl rfl trivial ?_
      refine vo_pick_t rfl rfl ?_
      refine vo_nil ?_
      refine hK7 _ ?_
      refine vc_cond rfl (fun hc3 => ?_) (fun hc3 => ?_)
      · try simp only [decide_eq_true_eq, decide_eq_false_iff_not, beq_iff_eq, bne_iff_ne, beq_eq_false_iff_ne, bne_eq_false_iff_eq, Bool.not_eq_true, Bool.not_eq_false, Bool.not_eq_eq_eq_not, Bool.not_true, Bool.not_false, List.length_map, Int.not_lt, Int.not_le, ne_eq, Decidable.not_not] at hc3
        refine vc_region ?_
        refine vo_fieldAddr_ptr rfl rfl Try.underlying60 rfl inf3 (by rw [sz3]; decide) ?_
        try simp only [Nat.zero_add]
        refine vo_store_var rfl rfl rfl rfl inf3 sz3 rfl ?_
        refine vo_stM ?_
        refine vo_nil ?_
        refine hK6 _ ?_
        refine vc_seq fun K8 hK8 => ?_
        refine vc_region ?_
        refine vo_load_varS rfl rfl rfl Try.underlying60 rfl inf60 sz60 rfl rfl ?_
        refine vo_store_varS rfl rfl rfl inf60 sz60 rfl ?_
        refine vo_stM ?_
        refine vo_nil ?_
        refine hK8 _ ?_
        refine vc_ret ?_
        change retQ _ _ _ _ _
        refine retQ_sel [] (srows := []) (.inr rfl) hC rfl rfl rfl rfl rfl rfl rfl ?_
        refine ⟨fr_eq (?_ : FoundM.mk _ _ _ _ = _), rfl⟩
        unfold bindM
        repeat' split
        all_goals first | rfl | (exfalso; omega)
      · try simp only [decide_eq_true_eq, decide_eq_false_iff_not, beq_iff_eq, bne_iff_ne, beq_eq_false_iff_ne, bne_eq_false_iff_eq, Bool.not_eq_true, Bool.not_eq_false, Bool.not_eq_eq_eq_not, Bool.not_true, Bool.not_false, List.length_map, Int.not_lt, Int.not_le, ne_eq, Decidable.not_not] at hc3
        refine vc_skip ?_
        refine hK6 _ ?_
        refine vc_seq fun K9 hK9 => ?_
        refine vc_region ?_
        refine vo_load_varS rfl rfl rfl Try.underlying60 rfl inf60 sz60 rfl rfl ?_
        refine vo_store_varS rfl rfl rfl inf60 sz60 rfl ?_
        refine vo_stM ?_
        refine vo_nil ?_
        refine hK9 _ ?_
        refine vc_ret ?_
        change retQ _ _ _ _ _
        refine retQ_sel [] (srows := []) (.inr rfl) hC rfl rfl rfl rfl rfl rfl rfl ?_
        refine ⟨fr_eq (?_ : FoundM.mk _ _ _ _ = _), rfl⟩
        unfold bindM
        repeat' split
        all_goals first | rfl | (exfalso; omega)
    · try simp only [decide_eq_true_eq, decide_eq_false_iff_not, beq_iff_eq, bne_iff_ne, beq_eq_false_iff_ne, bne_eq_false_iff_eq, Bool.not_eq_true, Bool.not_eq_false, Bool.not_eq_eq_eq_not, Bool.not_true, Bool.not_false, List.length_map, Int.not_lt, Int.not_le, ne_eq, Decidable.not_not] at hg2
      refine vo_guard_off rfl rfl rfl rfl rfl ?_
      refine vo_guard_off rfl rfl rfl rfl rfl ?_
      refine vo_pick_f rfl rfl ?_
      refine vo_nil ?_
      refine hK7 _ ?_
      refine vc_cond_f rfl ?_
      refine vc_skip ?_
      refine hK6 _ ?_
      refine vc_seq fun K10 hK10 => ?_
      refine vc_region ?_
      refine vo_load_varS rfl rfl rfl Try.underlying60 rfl inf60 sz60 rfl rfl ?_
      refine vo_store_varS rfl rfl rfl inf60 sz60 rfl ?_
      refine vo_stM ?_
      refine vo_nil ?_
      refine hK10 _ ?_
      refine vc_ret ?_
      change retQ _ _ _ _ _
      refine retQ_sel [] (srows := []) (.inr rfl) hC rfl rfl rfl rfl rfl rfl rfl ?_
      refine ⟨fr_eq (?_ : FoundM.mk _ _ _ _ = _), rfl⟩
      unfold bindM
      repeat' split
      all_goals first | rfl | (exfalso; omega)
  · try simp only [decide_eq_true_eq, decide_eq_false_iff_not, beq_iff_eq, bne_iff_ne, beq_eq_false_iff_ne, bne_eq_false_iff_eq, Bool.not_eq_true, Bool.not_eq_false, Bool.not_eq_eq_eq_not, Bool.not_true, Bool.not_false, List.length_map, Int.not_lt, Int.not_le, ne_eq, Decidable.not_not] at hc1
    refine vc_seq fun K11 hK11 => ?_
    refine vc_region ?_
    refine vo_binI rfl rfl rfl rfl trivial ?_
    refine vo_assign_pv rfl rfl ?_
    refine vo_nil ?_
    refine hK11 _ ?_
    refine vc_cond rfl (fun hc4 => ?_) (fun hc4 => ?_)
    · try simp only [decide_eq_true_eq, decide_eq_false_iff_not, beq_iff_eq, bne_iff_ne, beq_eq_false_iff_ne, bne_eq_false_iff_eq, Bool.not_eq_true, Bool.not_eq_false, Bool.not_eq_eq_eq_not, Bool.not_true, Bool.not_false, List.length_map, Int.not_lt, Int.not_le, ne_eq, Decidable.not_not] at hc4
      refine vc_seq fun K12 hK12 => ?_
      refine vc_region ?_
      refine vo_fieldAddr_ptr rfl rfl Try.underlying60 rfl inf3 (by rw [sz3]; decide) ?_
      try simp only [Nat.zero_add]
      refine vo_store_var rfl rfl rfl rfl inf3 sz3 rfl ?_
      refine vo_stM ?_
      refine vo_nil ?_
      refine hK12 _ ?_
      refine vc_region ?_
      refine vo_move_pv rfl rfl ?_
      refine vo_fieldAddr_ptr rfl rfl Try.underlying60 rfl inf3 (by rw [sz3]; decide) ?_
      try simp only [Nat.zero_add]
      refine vo_store_var rfl rfl rfl rfl inf3 sz3 rfl ?_
      refine vo_stM ?_
      refine vo_nil ?_
      refine hK3 _ ?_
      refine vc_seq fun K13 hK13 => ?_
      refine vc_seq fun K14 hK14 => ?_
      refine vc_region ?_
      refine vo_fieldAddr_ptr rfl rfl Try.underlying73 rfl inf3 (by rw [sz3]; decide) ?_
      try simp only [Nat.zero_add]
      refine vo_load_var rfl rfl rfl Try.underlying3 rfl rfl ?_
      refine vo_binI rfl rfl rfl rfl trivial ?_
      refine vo_move_pv rfl rfl ?_
      refine vo_split 36 rfl (fun hg5 => ?_) (fun hg5 => ?_)
      · try simp only [decide_eq_true_eq, decide_eq_false_iff_not, beq_iff_eq, bne_iff_ne, beq_eq_false_iff_ne, bne_eq_false_iff_eq, Bool.not_eq_true, Bool.not_eq_false, Bool.not_eq_eq_eq_not, Bool.not_true, Bool.not_false, List.length_map, Int.not_lt, Int.not_le, ne_eq, Decidable.not_not] at hg5
        refine vo_guard_on rfl rfl rfl ?_
        refine vo_move_pv rfl rfl ?_
        refine vo_guard_on rfl rfl rfl ?_
        refine vo_binI rfl rfl rfl rfl trivial ?_
        refine vo_pick_t rfl rfl ?_
        refine vo_nil ?_
        refine hK14 _ ?_
        refine vc_cond rfl (fun hc6 => ?_) (fun hc6 => ?_)
        · try simp only [decide_eq_true_eq, decide_eq_false_iff_not, beq_iff_eq, bne_iff_ne, beq_eq_false_iff_ne, bne_eq_false_iff_eq, Bool.not_eq_true, Bool.not_eq_false, Bool.not_eq_eq_eq_not, Bool.not_true, Bool.not_false, List.length_map, Int.not_lt, Int.not_le, ne_eq, Decidable.not_not] at hc6
          refine vc_region ?_
          refine vo_fieldAddr_ptr rfl rfl Try.underlying60 rfl inf3 (by rw [sz3]; decide) ?_
          try simp only [Nat.zero_add]
          refine vo_store_var rfl rfl rfl rfl inf3 sz3 rfl ?_
          refine vo_stM ?_
          refine vo_nil ?_
          refine hK13 _ ?_
          refine vc_seq fun K15 hK15 => ?_
          refine vc_region ?_
          refine vo_load_varS rfl rfl rfl Try.underlying60 rfl inf60 sz60 rfl rfl ?_
          refine vo_store_varS rfl rfl rfl inf60 sz60 rfl ?_
          refine vo_stM ?_
          refine vo_nil ?_
          refine hK15 _ ?_
          refine vc_ret ?_
          change retQ _ _ _ _ _
          refine retQ_sel [] (srows := []) (.inr rfl) hC rfl rfl rfl rfl rfl rfl rfl ?_
          refine ⟨fr_eq (?_ : FoundM.mk _ _ _ _ = _), rfl⟩
          unfold bindM
          repeat' split
          all_goals first | rfl | (exfalso; omega)
        · try simp only [decide_eq_true_eq, decide_eq_false_iff_not, beq_iff_eq, bne_iff_ne, beq_eq_false_iff_ne, bne_eq_false_iff_eq, Bool.not_eq_true, Bool.not_eq_false, Bool.not_eq_eq_eq_not, Bool.not_true, Bool.not_false, List.length_map, Int.not_lt, Int.not_le, ne_eq, Decidable.not_not] at hc6
          refine vc_skip ?_
          refine hK13 _ ?_
          refine vc_seq fun K16 hK16 => ?_
          refine vc_region ?_
          refine vo_load_varS rfl rfl rfl Try.underlying60 rfl inf60 sz60 rfl rfl ?_
          refine vo_store_varS rfl rfl rfl inf60 sz60 rfl ?_
          refine vo_stM ?_
          refine vo_nil ?_
          refine hK16 _ ?_
          refine vc_ret ?_
          change retQ _ _ _ _ _
          refine retQ_sel [] (srows := []) (.inr rfl) hC rfl rfl rfl rfl rfl rfl rfl ?_
          refine ⟨fr_eq (?_ : FoundM.mk _ _ _ _ = _), rfl⟩
          unfold bindM
          repeat' split
          all_goals first | rfl | (exfalso; omega)
      · try simp only [decide_eq_true_eq, decide_eq_false_iff_not, beq_iff_eq, bne_iff_ne, beq_eq_false_iff_ne, bne_eq_false_iff_eq, Bool.not_eq_true, Bool.not_eq_false, Bool.not_eq_eq_eq_not, Bool.not_true, Bool.not_false, List.length_map, Int.not_lt, Int.not_le, ne_eq, Decidable.not_not] at hg5
        refine vo_guard_off rfl rfl rfl rfl rfl ?_
        refine vo_guard_off rfl rfl rfl rfl rfl ?_
        refine vo_pick_f rfl rfl ?_
        refine vo_nil ?_
        refine hK14 _ ?_
        refine vc_cond_f rfl ?_
        refine vc_skip ?_
        refine hK13 _ ?_
        refine vc_seq fun K17 hK17 => ?_
        refine vc_region ?_
        refine vo_load_varS rfl rfl rfl Try.underlying60 rfl inf60 sz60 rfl rfl ?_
        refine vo_store_varS rfl rfl rfl inf60 sz60 rfl ?_
        refine vo_stM ?_
        refine vo_nil ?_
        refine hK17 _ ?_
        refine vc_ret ?_
        change retQ _ _ _ _ _
        refine retQ_sel [] (srows := []) (.inr rfl) hC rfl rfl rfl rfl rfl rfl rfl ?_
        refine ⟨fr_eq (?_ : FoundM.mk _ _ _ _ = _), rfl⟩
        unfold bindM
        repeat' split
        all_goals first | rfl | (exfalso; omega)
    · try simp only [decide_eq_true_eq, decide_eq_false_iff_not, beq_iff_eq, bne_iff_ne, beq_eq_false_iff_ne, bne_eq_false_iff_eq, Bool.not_eq_true, Bool.not_eq_false, Bool.not_eq_eq_eq_not, Bool.not_true, Bool.not_false, List.length_map, Int.not_lt, Int.not_le, ne_eq, Decidable.not_not] at hc4
      refine vc_seq fun K18 hK18 => ?_
      refine vc_seq fun K19 hK19 => ?_
      refine vc_region ?_
      refine vo_binI rfl rfl rfl rfl trivial ?_
      refine vo_assign_pv rfl rfl ?_
      refine vo_nil ?_
      refine hK19 _ ?_
      refine vc_cond rfl (fun hc7 => ?_) (fun hc7 => ?_)
      · try simp only [decide_eq_true_eq, decide_eq_false_iff_not, beq_iff_eq, bne_iff_ne, beq_eq_false_iff_ne, bne_eq_false_iff_eq, Bool.not_eq_true, Bool.not_eq_false, Bool.not_eq_eq_eq_not, Bool.not_true, Bool.not_false, List.length_map, Int.not_lt, Int.not_le, ne_eq, Decidable.not_not] at hc7
        refine vc_skip ?_
        refine hK18 _ ?_
        refine vc_cond rfl (fun hc8 => ?_) (fun hc8 => ?_)
        · try simp only [decide_eq_true_eq, decide_eq_false_iff_not, beq_iff_eq, bne_iff_ne, beq_eq_false_iff_ne, bne_eq_false_iff_eq, Bool.not_eq_true, Bool.not_eq_false, Bool.not_eq_eq_eq_not, Bool.not_true, Bool.not_false, List.length_map, Int.not_lt, Int.not_le, ne_eq, Decidable.not_not] at hc8
          refine vc_seq fun K20 hK20 => ?_
          refine vc_region ?_
          refine vo_move_pv rfl rfl ?_
          refine vo_binI rfl rfl rfl rfl trivial ?_
          refine vo_nil ?_
          refine hK20 _ ?_
          refine vc_cond rfl (fun hc9 => ?_) (fun hc9 => ?_)
          · try simp only [decide_eq_true_eq, decide_eq_false_iff_not, beq_iff_eq, bne_iff_ne, beq_eq_false_iff_ne, bne_eq_false_iff_eq, Bool.not_eq_true, Bool.not_eq_false, Bool.not_eq_eq_eq_not, Bool.not_true, Bool.not_false, List.length_map, Int.not_lt, Int.not_le, ne_eq, Decidable.not_not] at hc9
            refine vc_seq fun K21 hK21 => ?_
            refine vc_region ?_
            refine vo_fieldAddr_ptr rfl rfl Try.underlying60 rfl inf3 (by rw [sz3]; decide) ?_
            try simp only [Nat.zero_add]
            refine vo_store_var rfl rfl rfl rfl inf3 sz3 rfl ?_
            refine vo_stM ?_
            refine vo_nil ?_
            refine hK21 _ ?_
            refine vc_region ?_
            refine vo_move_pv rfl rfl ?_
            refine vo_fieldAddr_ptr rfl rfl Try.underlying60 rfl inf3 (by rw [sz3]; decide) ?_
            try simp only [Nat.zero_add]
            refine vo_store_var rfl rfl rfl rfl inf3 sz3 rfl ?_
            refine vo_stM ?_
            refine vo_nil ?_
            refine hK3 _ ?_
            refine vc_seq fun K22 hK22 => ?_
            refine vc_seq fun K23 hK23 => ?_
            refine vc_region ?_
            refine vo_fieldAddr_ptr rfl rfl Try.underlying73 rfl inf3 (by rw [sz3]; decide) ?_
            try simp only [Nat.zero_add]
            refine vo_load_var rfl rfl rfl Try.underlying3 rfl rfl ?_
            refine vo_binI rfl rfl rfl rfl trivial ?_
            refine vo_move_pv rfl rfl ?_
            refine vo_split 36 rfl (fun hg10 => ?_) (fun hg10 => ?_)
            · try simp only [decide_eq_true_eq, decide_eq_false_iff_not, beq_iff_eq, bne_iff_ne, beq_eq_false_iff_ne, bne_eq_false_iff_eq, Bool.not_eq_true, Bool.not_eq_false, Bool.not_eq_eq_eq_not, Bool.not_true, Bool.not_false, List.length_map, Int.not_lt, Int.not_le, ne_eq, Decidable.not_not] at hg10
              refine vo_guard_on rfl rfl rfl ?_
              refine vo_move_pv rfl rfl ?_
              refine vo_guard_on rfl rfl rfl ?_
              refine vo_binI rfl rfl rfl rfl trivial ?_
              refine vo_pick_t rfl rfl ?_
              refine vo_nil ?_
              refine hK23 _ ?_
              refine vc_cond rfl (fun hc11 => ?_) (fun hc11 => ?_)
              · try simp only [decide_eq_true_eq, decide_eq_false_iff_not, beq_iff_eq, bne_iff_ne, beq_eq_false_iff_ne, bne_eq_false_iff_eq, Bool.not_eq_true, Bool.not_eq_false, Bool.not_eq_eq_eq_not, Bool.not_true, Bool.not_false, List.length_map, Int.not_lt, Int.not_le, ne_eq, Decidable.not_not] at hc11
                refine vc_region ?_
                refine vo_fieldAddr_ptr rfl rfl Try.underlying60 rfl inf3 (by rw [sz3]; decide) ?_
                try simp only [Nat.zero_add]
                refine vo_store_var rfl rfl rfl rfl inf3 sz3 rfl ?_
                refine vo_stM ?_
                refine vo_nil ?_
                refine hK22 _ ?_
                refine vc_seq fun K24 hK24 => ?_
                refine vc_region ?_
                refine vo_load_varS rfl rfl rfl Try.underlying60 rfl inf60 sz60 rfl rfl ?_
                refine vo_store_varS rfl rfl rfl inf60 sz60 rfl ?_
                refine vo_stM ?_
                refine vo_nil ?_
                refine hK24 _ ?_
                refine vc_ret ?_
                change retQ _ _ _ _ _
                refine retQ_sel [] (srows := []) (.inr rfl) hC rfl rfl rfl rfl rfl rfl rfl ?_
                refine ⟨fr_eq (?_ : FoundM.mk _ _ _ _ = _), rfl⟩
                unfold bindM
                repeat' split
                all_goals first | rfl | (exfalso; omega)
              · try simp only [decide_eq_true_eq, decide_eq_false_iff_not, beq_iff_eq, bne_iff_ne, beq_eq_false_iff_ne, bne_eq_false_iff_eq, Bool.not_eq_true, Bool.not_eq_false, Bool.not_eq_eq_eq_not, Bool.not_true, Bool.not_false, List.length_map, Int.not_lt, Int.not_le, ne_eq, Decidable.not_not] at hc11
                refine vc_skip ?_
                refine hK22 _ ?_
                refine vc_seq fun K25 hK25 => ?_
                refine vc_region ?_
                refine vo_load_varS rfl rfl rfl Try.underlying60 rfl inf60 sz60 rfl rfl ?_
                refine vo_store_varS rfl rfl rfl inf60 sz60 rfl ?_
                refine vo_stM ?_
                refine vo_nil ?_
                refine hK25 _ ?_
                refine vc_ret ?_
                change retQ _ _ _ _ _
                refine retQ_sel [] (srows := []) (.inr rfl) hC rfl rfl rfl rfl rfl rfl rfl ?_
                refine ⟨fr_eq (?_ : FoundM.mk _ _ _ _ = _), rfl⟩
                unfold bindM
                repeat' split
                all_goals first | rfl | (exfalso; omega)
            · try simp only [decide_eq_true_eq, decide_eq_false_iff_not, beq_iff_eq, bne_iff_ne, beq_eq_false_iff_ne, bne_eq_false_iff_eq, Bool.not_eq_true, Bool.not_eq_false, Bool.not_eq_eq_eq_not, Bool.not_true, Bool.not_false, List.length_map, Int.not_lt, Int.not_le, ne_eq, Decidable.not_not] at hg10
              refine vo_guard_off rfl rfl rfl rfl rfl ?_
              refine vo_guard_off rfl rfl rfl rfl rfl ?_
              refine vo_pick_f rfl rfl ?_
              refine vo_nil ?_
              refine hK23 _ ?_
              refine vc_cond_f rfl ?_
              refine vc_skip ?_
              refine hK22 _ ?_
              refine vc_seq fun K26 hK26 => ?_
              refine vc_region ?_
              refine vo_load_varS rfl rfl rfl Try.underlying60 rfl inf60 sz60 rfl rfl ?_
              refine vo_store_varS rfl rfl rfl inf60 sz60 rfl ?_
              refine vo_stM ?_
              refine vo_nil ?_
              refine hK26 _ ?_
              refine vc_ret ?_
              change retQ _ _ _ _ _
              refine retQ_sel [] (srows := []) (.inr rfl) hC rfl rfl rfl rfl rfl rfl rfl ?_
              refine ⟨fr_eq (?_ : FoundM.mk _ _ _ _ = _), rfl⟩
              unfold bindM
              repeat' split
              all_goals first | rfl | (exfalso; omega)
          · try simp only [decide_eq_true_eq, decide_eq_false_iff_not, beq_iff_eq, bne_iff_ne, beq_eq_false_iff_ne, bne_eq_false_iff_eq, Bool.not_eq_true, Bool.not_eq_false, Bool.not_eq_eq_eq_not, Bool.not_true, Bool.not_false, List.length_map, Int.not_lt, Int.not_le, ne_eq, Decidable.not_not] at hc9
            refine vc_skip ?_
            refine hK3 _ ?_
            refine vc_seq fun K27 hK27 => ?_
            refine vc_seq fun K28 hK28 => ?_
            refine vc_region ?_
            refine vo_fieldAddr_ptr rfl rfl Try.underlying73 rfl inf3 (by rw [sz3]; decide) ?_
            try simp only [Nat.zero_add]
            refine vo_load_var rfl rfl rfl Try.underlying3 rfl rfl ?_
            refine vo_binI rfl rfl rfl rfl trivial ?_
            refine vo_move_pv rfl rfl ?_
            refine vo_split 36 rfl (fun hg12 => ?_) (fun hg12 => ?_)
            · try simp only [decide_eq_true_eq, decide_eq_false_iff_not, beq_iff_eq, bne_iff_ne, beq_eq_false_iff_ne, bne_eq_false_iff_eq, Bool.not_eq_true, Bool.not_eq_false, Bool.not_eq_eq_eq_not, Bool.not_true, Bool.not_false, List.length_map, Int.not_lt, Int.not_le, ne_eq, Decidable.not_not] at hg12
              refine vo_guard_on rfl rfl rfl ?_
              refine vo_move_pv rfl rfl ?_
              refine vo_guard_on rfl rfl rfl ?_
              refine vo_binI rfl rfl rfl rfl trivial ?_
              refine vo_pick_t rfl rfl ?_
              refine vo_nil ?_
              refine hK28 _ ?_
              refine vc_cond rfl (fun hc13 => ?_) (fun hc13 => ?_)
              · try simp only [decide_eq_true_eq, decide_eq_false_iff_not, beq_iff_eq, bne_iff_ne, beq_eq_false_iff_ne, bne_eq_false_iff_eq, Bool.not_eq_true, Bool.not_eq_false, Bool.not_eq_eq_eq_not, Bool.not_true, Bool.not_false, List.length_map, Int.not_lt, Int.not_le, ne_eq, Decidable.not_not] at hc13
                refine vc_region ?_
                refine vo_fieldAddr_ptr rfl rfl Try.underlying60 rfl inf3 (by rw [sz3]; decide) ?_
                try simp only [Nat.zero_add]
                refine vo_store_var rfl rfl rfl rfl inf3 sz3 rfl ?_
                refine vo_stM ?_
                refine vo_nil ?_
                refine hK27 _ ?_
                refine vc_seq fun K29 hK29 => ?_
                refine vc_region ?_
                refine vo_load_varS rfl rfl rfl Try.underlying60 rfl inf60 sz60 rfl rfl ?_
                refine vo_store_varS rfl rfl rfl inf60 sz60 rfl ?_
                refine vo_stM ?_
                refine vo_nil ?_
                refine hK29 _ ?_
                refine vc_ret ?_
                change retQ _ _ _ _ _
                refine retQ_sel [] (srows := []) (.inr rfl) hC rfl rfl rfl rfl rfl rfl rfl ?_
                refine ⟨fr_eq (?_ : FoundM.mk _ _ _ _ = _), rfl⟩
                unfold bindM
                repeat' split
                all_goals first | rfl | (exfalso; omega)
              · try simp only [decide_eq_true_eq, decide_eq_false_iff_not, beq_iff_eq, bne_iff_ne, beq_eq_false_iff_ne, bne_eq_false_iff_eq, Bool.not_eq_true, Bool.not_eq_false, Bool.not_eq_eq_eq_not, Bool.not_true, Bool.not_false, List.length_map, Int.not_lt, Int.not_le, ne_eq, Decidable.not_not] at hc13
                refine vc_skip ?_
                refine hK27 _ ?_
                refine vc_seq fun K30 hK30 => ?_
                refine vc_region ?_
                refine vo_load_varS rfl rfl rfl Try.underlying60 rfl inf60 sz60 rfl rfl ?_
                refine vo_store_varS rfl rfl rfl inf60 sz60 rfl ?_
                refine vo_stM ?_
                refine vo_nil ?_
                refine hK30 _ ?_
                refine vc_ret ?_
                change retQ _ _ _ _ _
                refine retQ_sel [] (srows := []) (.inr rfl) hC rfl rfl rfl rfl rfl rfl rfl ?_
                refine ⟨fr_eq (?_ : FoundM.mk _ _ _ _ = _), rfl⟩
                unfold bindM
                repeat' split
                all_goals first | rfl | (exfalso; omega)
            · try simp only [decide_eq_true_eq, decide_eq_false_iff_not, beq_iff_eq, bne_iff_ne, beq_eq_false_iff_ne, bne_eq_false_iff_eq, Bool.not_eq_true, Bool.not_eq_false, Bool.not_eq_eq_eq_not, Bool.not_true, Bool.not_false, List.length_map, Int.not_lt, Int.not_le, ne_eq, Decidable.not_not] at hg12
              refine vo_guard_off rfl rfl rfl rfl rfl ?_
              refine vo_guard_off rfl rfl rfl rfl rfl ?_
              refine vo_pick_f rfl rfl ?_
              refine vo_nil ?_
              refine hK28 _ ?_
              refine vc_cond_f rfl ?_
              refine vc_skip ?_
              refine hK27 _ ?_
              refine vc_seq fun K31 hK31 => ?_
              refine vc_region ?_
              refine vo_load_varS rfl rfl rfl Try.underlying60 rfl inf60 sz60 rfl rfl ?_
              refine vo_store_varS rfl rfl rfl inf60 sz60 rfl ?_
              refine vo_stM ?_
              refine vo_nil ?_
              refine hK31 _ ?_
              refine vc_ret ?_
              change retQ _ _ _ _ _
              refine retQ_sel [] (srows := []) (.inr rfl) hC rfl rfl rfl rfl rfl rfl rfl ?_
              refine ⟨fr_eq (?_ : FoundM.mk _ _ _ _ = _), rfl⟩
              unfold bindM
              repeat' split
              all_goals first | rfl | (exfalso; omega)
        · try simp only [decide_eq_true_eq, decide_eq_false_iff_not, beq_iff_eq, bne_iff_ne, beq_eq_false_iff_ne, bne_eq_false_iff_eq, Bool.not_eq_true, Bool.not_eq_false, Bool.not_eq_eq_eq_not, Bool.not_true, Bool.not_false, List.length_map, Int.not_lt, Int.not_le, ne_eq, Decidable.not_not] at hc8
          refine vc_skip ?_
          refine hK3 _ ?_
          refine vc_seq fun K32 hK32 => ?_
          refine vc_seq fun K33 hK33 => ?_
          refine vc_region ?_
          refine vo_fieldAddr_ptr rfl rfl Try.underlying73 rfl inf3 (by rw [sz3]; decide) ?_
          try simp only [Nat.zero_add]
          refine vo_load_var rfl rfl rfl Try.underlying3 rfl rfl ?_
          refine vo_binI rfl rfl rfl rfl trivial ?_
          refine vo_move_pv rfl rfl ?_
          refine vo_split 36 rfl (fun hg14 => ?_) (fun hg14 => ?_)
          · try simp only [decide_eq_true_eq, decide_eq_false_iff_not, beq_iff_eq, bne_iff_ne, beq_eq_false_iff_ne, bne_eq_false_iff_eq, Bool.not_eq_true, Bool.not_eq_false, Bool.not_eq_eq_eq_not, Bool.not_true, Bool.not_false, List.length_map, Int.not_lt, Int.not_le, ne_eq, Decidable.not_not] at hg14
            refine vo_guard_on rfl rfl rfl ?_
            refine vo_move_pv rfl rfl ?_
            refine vo_guard_on rfl rfl rfl ?_
            refine vo_binI rfl rfl rfl rfl trivial ?_
            refine vo_pick_t rfl rfl ?_
            refine vo_nil ?_
            refine hK33 _ ?_
            refine vc_cond rfl (fun hc15 => ?_) (fun hc15 => ?_)
            · try simp only [decide_eq_true_eq, decide_eq_false_iff_not, beq_iff_eq, bne_iff_ne, beq_eq_false_iff_ne, bne_eq_false_iff_eq, Bool.not_eq_true, Bool.not_eq_false, Bool.not_eq_eq_eq_not, Bool.not_true, Bool.not_false, List.length_map, Int.not_lt, Int.not_le, ne_eq, Decidable.not_not] at hc15
              refine vc_region ?_
              refine vo_fieldAddr_ptr rfl rfl Try.underlying60 rfl inf3 (by rw [sz3]; decide) ?_
              try simp only [Nat.zero_add]
              refine vo_store_var rfl rfl rfl rfl inf3 sz3 rfl ?_
              refine vo_stM ?_
              refine vo_nil ?_
              refine hK32 _ ?_
              refine vc_seq fun K34 hK34 => ?_
              refine vc_region ?_
              refine vo_load_varS rfl rfl rfl Try.underlying60 rfl inf60 sz60 rfl rfl ?_
              refine vo_store_varS rfl rfl rfl inf60 sz60 rfl ?_
              refine vo_stM ?_
              refine vo_nil ?_
              refine hK34 _ ?_
              refine vc_ret ?_
              change retQ _ _ _ _ _
              refine retQ_sel [] (srows := []) (.inr rfl) hC rfl rfl rfl rfl rfl rfl rfl ?_
              refine ⟨fr_eq (?_ : FoundM.mk _ _ _ _ = _), rfl⟩
              unfold bindM
              repeat' split
              all_goals first | rfl | (exfalso; omega)
            · try simp only [decide_eq_true_eq, decide_eq_false_iff_not, beq_iff_eq, bne_iff_ne, beq_eq_false_iff_ne, bne_eq_false_iff_eq, Bool.not_eq_true, Bool.not_eq_false, Bool.not_eq_eq_eq_not, Bool.not_true, Bool.not_false, List.length_map, Int.not_lt, Int.not_le, ne_eq, Decidable.not_not] at hc15
              refine vc_skip ?_
              refine hK32 _ ?_
              refine vc_seq fun K35 hK35 => ?_
              refine vc_region ?_
              refine vo_load_varS rfl rfl rfl Try.underlying60 rfl inf60 sz60 rfl rfl ?_
              refine vo_store_varS rfl rfl rfl inf60 sz60 rfl ?_
              refine vo_stM ?_
              refine vo_nil ?_
              refine hK35 _ ?_
              refine vc_ret ?_
              change retQ _ _ _ _ _
              refine retQ_sel [] (srows := []) (.inr rfl) hC rfl rfl rfl rfl rfl rfl rfl ?_
              refine ⟨fr_eq (?_ : FoundM.mk _ _ _ _ = _), rfl⟩
              unfold bindM
              repeat' split
              all_goals first | rfl | (exfalso; omega)
          · try simp only [decide_eq_true_eq, decide_eq_false_iff_not, beq_iff_eq, bne_iff_ne, beq_eq_false_iff_ne, bne_eq_false_iff_eq, Bool.not_eq_true, Bool.not_eq_false, Bool.not_eq_eq_eq_not, Bool.not_true, Bool.not_false, List.length_map, Int.not_lt, Int.not_le, ne_eq, Decidable.not_not] at hg14
            refine vo_guard_off rfl rfl rfl rfl rfl ?_
            refine vo_guard_off rfl rfl rfl rfl rfl ?_
            refine vo_pick_f rfl rfl ?_
            refine vo_nil ?_
            refine hK33 _ ?_
            refine vc_cond_f rfl ?_
            refine vc_skip ?_
            refine hK32 _ ?_
            refine vc_seq fun K36 hK36 => ?_
            refine vc_region ?_
            refine vo_load_varS rfl rfl rfl Try.underlying60 rfl inf60 sz60 rfl rfl ?_
            refine vo_store_varS rfl rfl rfl inf60 sz60 rfl ?_
            refine vo_stM ?_
            refine vo_nil ?_
            refine hK36 _ ?_
            refine vc_ret ?_
            change retQ _ _ _ _ _
            refine retQ_sel [] (srows := []) (.inr rfl) hC rfl rfl rfl rfl rfl rfl rfl ?_
            refine ⟨fr_eq (?_ : FoundM.mk _ _ _ _ = _), rfl⟩
            unfold bindM
            repeat' split
            all_goals first | rfl | (exfalso; omega)
      · try simp only [decide_eq_true_eq, decide_eq_false_iff_not, beq_iff_eq, bne_iff_ne, beq_eq_false_iff_ne, bne_eq_false_iff_eq, Bool.not_eq_true, Bool.not_eq_false, Bool.not_eq_eq_eq_not, Bool.not_true, Bool.not_false, List.length_map, Int.not_lt, Int.not_le, ne_eq, Decidable.not_not] at hc7
        refine vc_region ?_
        refine vo_binI rfl rfl rfl rfl trivial ?_
        refine vo_assign_pv rfl rfl ?_
        refine vo_nil ?_
        refine hK18 _ ?_
        refine vc_cond rfl (fun hc16 => ?_) (fun hc16 => ?_)
        · try simp only [decide_eq_true_eq, decide_eq_false_iff_not, beq_iff_eq, bne_iff_ne, beq_eq_false_iff_ne, bne_eq_false_iff_eq, Bool.not_eq_true, Bool.not_eq_false, Bool.not_eq_eq_eq_not, Bool.not_true, Bool.not_false, List.length_map, Int.not_lt, Int.not_le, ne_eq, Decidable.not_not] at hc16
          refine vc_seq fun K37 hK37 => ?_
          refine vc_region ?_
          refine vo_move_pv rfl rfl ?_
          refine vo_binI rfl rfl rfl rfl trivial ?_
          refine vo_nil ?_
          refine hK37 _ ?_
          refine vc_cond rfl (fun hc17 => ?_) (fun hc17 => ?_)
          · try simp only [decide_eq_true_eq, decide_eq_false_iff_not, beq_iff_eq, bne_iff_ne, beq_eq_false_iff_ne, bne_eq_false_iff_eq, Bool.not_eq_true, Bool.not_eq_false, Bool.not_eq_eq_eq_not, Bool.not_true, Bool.not_false, List.length_map, Int.not_lt, Int.not_le, ne_eq, Decidable.not_not] at hc17
            refine vc_seq fun K38 hK38 => ?_
            refine vc_region ?_
            refine vo_fieldAddr_ptr rfl rfl Try.underlying60 rfl inf3 (by rw [sz3]; decide) ?_
            try simp only [Nat.zero_add]
            refine vo_store_var rfl rfl rfl rfl inf3 sz3 rfl ?_
            refine vo_stM ?_
            refine vo_nil ?_
            refine hK38 _ ?_
            refine vc_region ?_
            refine vo_move_pv rfl rfl ?_
            refine vo_fieldAddr_ptr rfl rfl Try.underlying60 rfl inf3 (by rw [sz3]; decide) ?_
            try simp only [Nat.zero_add]
            refine vo_store_var rfl rfl rfl rfl inf3 sz3 rfl ?_
            refine vo_stM ?_
            refine vo_nil ?_
            refine hK3 _ ?_
            refine vc_seq fun K39 hK39 => ?_
            refine vc_seq fun K40 hK40 => ?_
            refine vc_region ?_
            refine vo_fieldAddr_ptr rfl rfl Try.underlying73 rfl inf3 (by rw [sz3]; decide) ?_
            try simp only [Nat.zero_add]
            refine vo_load_var rfl rfl rfl Try.underlying3 rfl rfl ?_
            refine vo_binI rfl rfl rfl rfl trivial ?_
            refine vo_move_pv rfl rfl ?_
            refine vo_split 36 rfl (fun hg18 => ?_) (fun hg18 => ?_)
            · try simp only [decide_eq_true_eq, decide_eq_false_iff_not, beq_iff_eq, bne_iff_ne, beq_eq_false_iff_ne, bne_eq_false_iff_eq, Bool.not_eq_true, Bool.not_eq_false, Bool.not_eq_eq_eq_not, Bool.not_true, Bool.not_false, List.length_map, Int.not_lt, Int.not_le, ne_eq, Decidable.not_not] at hg18
              refine vo_guard_on rfl rfl rfl ?_
              refine vo_move_pv rfl rfl ?_
              refine vo_guard_on rfl rfl rfl ?_
              refine vo_binI rfl rfl rfl rfl trivial ?_
              refine vo_pick_t rfl rfl ?_
              refine vo_nil ?_
              refine hK40 _ ?_
              refine vc_cond rfl (fun hc19 => ?_) (fun hc19 => ?_)
              · try simp only [decide_eq_true_eq, decide_eq_false_iff_not, beq_iff_eq, bne_iff_ne, beq_eq_false_iff_ne, bne_eq_false_iff_eq, Bool.not_eq_true, Bool.not_eq_false, Bool.not_eq_eq_eq_not, Bool.not_true, Bool.not_false, List.length_map, Int.not_lt, Int.not_le, ne_eq, Decidable.not_not] at hc19
                refine vc_region ?_
                refine vo_fieldAddr_ptr rfl rfl Try.underlying60 rfl inf3 (by rw [sz3]; decide) ?_
                try simp only [Nat.zero_add]
                refine vo_store_var rfl rfl rfl rfl inf3 sz3 rfl ?_
                refine vo_stM ?_
                refine vo_nil ?_
                refine hK39 _ ?_
                refine vc_seq fun K41 hK41 => ?_
                refine vc_region ?_
                refine vo_load_varS rfl rfl rfl Try.underlying60 rfl inf60 sz60 rfl rfl ?_
                refine vo_store_varS rfl rfl rfl inf60 sz60 rfl ?_
                refine vo_stM ?_
                refine vo_nil ?_
                refine hK41 _ ?_
                refine vc_ret ?_
                change retQ _ _ _ _ _
                refine retQ_sel [] (srows := []) (.inr rfl) hC rfl rfl rfl rfl rfl rfl rfl ?_
                refine ⟨fr_eq (?_ : FoundM.mk _ _ _ _ = _), rfl⟩
                unfold bindM
                repeat' split
                all_goals first | rfl | (exfalso; omega)
              · try simp only [decide_eq_true_eq, decide_eq_false_iff_not, beq_iff_eq, bne_iff_ne, beq_eq_false_iff_ne, bne_eq_false_iff_eq, Bool.not_eq_true, Bool.not_eq_false, Bool.not_eq_eq_eq_not, Bool.not_true, Bool.not_false, List.length_map, Int.not_lt, Int.not_le, ne_eq, Decidable.not_not] at hc19
                refine vc_skip ?_
                refine hK39 _ ?_
                refine vc_seq fun K42 hK42 => ?_
                refine vc_region ?_
                refine vo_load_varS rfl rfl rfl Try.underlying60 rfl inf60 sz60 rfl rfl ?_
                refine vo_store_varS rfl rfl rfl inf60 sz60 rfl ?_
                refine vo_stM ?_
                refine vo_nil ?_
                refine hK42 _ ?_
                refine vc_ret ?_
                change retQ _ _ _ _ _
                refine retQ_sel [] (srows := []) (.inr rfl) hC rfl rfl rfl rfl rfl rfl rfl ?_
                refine ⟨fr_eq (?_ : FoundM.mk _ _ _ _ = _), rfl⟩
                unfold bindM
                repeat' split
                all_goals first | rfl | (exfalso; omega)
            · try simp only [decide_eq_true_eq, decide_eq_false_iff_not, beq_iff_eq, bne_iff_ne, beq_eq_false_iff_ne, bne_eq_false_iff_eq, Bool.not_eq_true, Bool.not_eq_false, Bool.not_eq_eq_eq_not, Bool.not_true, Bool.not_false, List.length_map, Int.not_lt, Int.not_le, ne_eq, Decidable.not_not] at hg18
              refine vo_guard_off rfl rfl rfl rfl rfl ?_
              refine vo_guard_off rfl rfl rfl rfl rfl ?_
              refine vo_pick_f rfl rfl ?_
              refine vo_nil ?_
              refine hK40 _ ?_
              refine vc_cond_f rfl ?_
              refine vc_skip ?_
              refine hK39 _ ?_
              refine vc_seq fun K43 hK43 => ?_
              refine vc_region ?_
              refine vo_load_varS rfl rfl rfl Try.underlying60 rfl inf60 sz60 rfl rfl ?_
              refine vo_store_varS rfl rfl rfl inf60 sz60 rfl ?_
              refine vo_stM ?_
              refine vo_nil ?_
              refine hK43 _ ?_
              refine vc_ret ?_
              change retQ _ _ _ _ _
              refine retQ_sel [] (srows := []) (.inr rfl) hC rfl rfl rfl rfl rfl rfl rfl ?_
              refine ⟨fr_eq (?_ : FoundM.mk _ _ _ _ = _), rfl⟩
              unfold bindM
              repeat' split
              all_goals first | rfl | (exfalso; omega)
          · try simp only [decide_eq_true_eq, decide_eq_false_iff_not, beq_iff_eq, bne_iff_ne, beq_eq_false_iff_ne, bne_eq_false_iff_eq, Bool.not_eq_true, Bool.not_eq_false, Bool.not_eq_eq_eq_not, Bool.not_true, Bool.not_false, List.length_map, Int.not_lt, Int.not_le, ne_eq, Decidable.not_not] at hc17
            refine vc_skip ?_
            refine hK3 _ ?_
            refine vc_seq fun K44 hK44 => ?_
            refine vc_seq fun K45 hK45 => ?_
            refine vc_region ?_
            refine vo_fieldAddr_ptr rfl rfl Try.underlying73 rfl inf3 (by rw [sz3]; decide) ?_
            try simp only [Nat.zero_add]
            refine vo_load_var rfl rfl rfl Try.underlying3 rfl rfl ?_
            refine vo_binI rfl rfl rfl rfl trivial ?_
            refine vo_move_pv rfl rfl ?_
            refine vo_split 36 rfl (fun hg20 => ?_) (fun hg20 => ?_)
            · try simp only [decide_eq_true_eq, decide_eq_false_iff_not, beq_iff_eq, bne_iff_ne, beq_eq_false_iff_ne, bne_eq_false_iff_eq, Bool.not_eq_true, Bool.not_eq_false, Bool.not_eq_eq_eq_not, Bool.not_true, Bool.not_false, List.length_map, Int.not_lt, Int.not_le, ne_eq, Decidable.not_not] at hg20
              refine vo_guard_on rfl rfl rfl ?_
              refine vo_move_pv rfl rfl ?_
              refine vo_guard_on rfl rfl rfl ?_
              refine vo_binI rfl rfl rfl rfl trivial ?_
              refine vo_pick_t rfl rfl ?_
              refine vo_nil ?_
              refine hK45 _ ?_
              refine vc_cond rfl (fun hc21 => ?_) (fun hc21 => ?_)
              · try simp only [decide_eq_true_eq, decide_eq_false_iff_not, beq_iff_eq, bne_iff_ne, beq_eq_false_iff_ne, bne_eq_false_iff_eq, Bool.not_eq_true, Bool.not_eq_false, Bool.not_eq_eq_eq_not, Bool.not_true, Bool.not_false, List.length_map, Int.not_lt, Int.not_le, ne_eq, Decidable.not_not] at hc21
                refine vc_region ?_
                refine vo_fieldAddr_ptr rfl rfl Try.underlying60 rfl inf3 (by rw [sz3]; decide) ?_
                try simp only [Nat.zero_add]
                refine vo_store_var rfl rfl rfl rfl inf3 sz3 rfl ?_
                refine vo_stM ?_
                refine vo_nil ?_
                refine hK44 _ ?_
                refine vc_seq fun K46 hK46 => ?_
                refine vc_region ?_
                refine vo_load_varS rfl rfl rfl Try.underlying60 rfl inf60 sz60 rfl rfl ?_
                refine vo_store_varS rfl rfl rfl inf60 sz60 rfl ?_
                refine vo_stM ?_
                refine vo_nil ?_
                refine hK46 _ ?_
                refine vc_ret ?_
                change retQ _ _ _ _ _
                refine retQ_sel [] (srows := []) (.inr rfl) hC rfl rfl rfl rfl rfl rfl rfl ?_
                refine ⟨fr_eq (?_ : FoundM.mk _ _ _ _ = _), rfl⟩
                unfold bindM
                repeat' split
                all_goals first | rfl | (exfalso; omega)
              · try simp only [decide_eq_true_eq, decide_eq_false_iff_not, beq_iff_eq, bne_iff_ne, beq_eq_false_iff_ne, bne_eq_false_iff_eq, Bool.not_eq_true, Bool.not_eq_false, Bool.not_eq_eq_eq_not, Bool.not_true, Bool.not_false, List.length_map, Int.not_lt, Int.not_le, ne_eq, Decidable.not_not] at hc21
                refine vc_skip ?_
                refine hK44 _ ?_
                refine vc_seq fun K47 hK47 => ?_
                refine vc_region ?_
                refine vo_load_varS rfl rfl rfl Try.underlying60 rfl inf60 sz60 rfl rfl ?_
                refine vo_store_varS rfl rfl rfl inf60 sz60 rfl ?_
                refine vo_stM ?_
                refine vo_nil ?_
                refine hK47 _ ?_
                refine vc_ret ?_
                change retQ _ _ _ _ _
                refine retQ_sel [] (srows := []) (.inr rfl) hC rfl rfl rfl rfl rfl rfl rfl ?_
                refine ⟨fr_eq (?_ : FoundM.mk _ _ _ _ = _), rfl⟩
                unfold bindM
                repeat' split
                all_goals first | rfl | (exfalso; omega)
            · try simp only [decide_eq_true_eq, decide_eq_false_iff_not, beq_iff_eq, bne_iff_ne, beq_eq_false_iff_ne, bne_eq_false_iff_eq, Bool.not_eq_true, Bool.not_eq_false, Bool.not_eq_eq_eq_not, Bool.not_true, Bool.not_false, List.length_map, Int.not_lt, Int.not_le, ne_eq, Decidable.not_not] at hg20
              refine vo_guard_off rfl rfl rfl rfl rfl ?_
              refine vo_guard_off rfl rfl rfl rfl rfl ?_
              refine vo_pick_f rfl rfl ?_
              refine vo_nil ?_
              refine hK45 _ ?_
              refine vc_cond_f rfl ?_
              refine vc_skip ?_
              refine hK44 _ ?_
              refine vc_seq fun K48 hK48 => ?_
              refine vc_region ?_
              refine vo_load_varS rfl rfl rfl Try.underlying60 rfl inf60 sz60 rfl rfl ?_
              refine vo_store_varS rfl rfl rfl inf60 sz60 rfl ?_
              refine vo_stM ?_
              refine vo_nil ?_
              refine hK48 _ ?_
              refine vc_ret ?_
              change retQ _ _ _ _ _
              refine retQ_sel [] (srows := []) (.inr rfl) hC rfl rfl rfl rfl rfl rfl rfl ?_
              refine ⟨fr_eq (?_ : FoundM.mk _ _ _ _ = _), rfl⟩
              unfold bindM
              repeat' split
              all_goals first | rfl | (exfalso; omega)
        · try simp only [decide_eq_true_eq, decide_eq_false_iff_not, beq_iff_eq, bne_iff_ne, beq_eq_false_iff_ne, bne_eq_false_iff_eq, Bool.not_eq_true, Bool.not_eq_false, Bool.not_eq_eq_eq_not, Bool.not_true, Bool.not_false, List.length_map, Int.not_lt, Int.not_le, ne_eq, Decidable.not_not] at hc16
          refine vc_skip ?_
          refine hK3 _ ?_
          refine vc_seq fun K49 hK49 => ?_
          refine vc_seq fun K50 hK50 => ?_
          refine vc_region ?_
          refine vo_fieldAddr_ptr rfl rfl Try.underlying73 rfl inf3 (by rw [sz3]; decide) ?_
          try simp only [Nat.zero_add]
          refine vo_load_var rfl rfl rfl Try.underlying3 rfl rfl ?_
          refine vo_binI rfl rfl rfl rfl trivial ?_
          refine vo_move_pv rfl rfl ?_
          refine vo_split 36 rfl (fun hg22 => ?_) (fun hg22 => ?_)
          · try simp only [decide_eq_true_eq, decide_eq_false_iff_not, beq_iff_eq, bne_iff_ne, beq_eq_false_iff_ne, bne_eq_false_iff_eq, Bool.not_eq_true, Bool.not_eq_false, Bool.not_eq_eq_eq_not, Bool.not_true, Bool.not_false, List.length_map, Int.not_lt, Int.not_le, ne_eq, Decidable.not_not] at hg22
            refine vo_guard_on rfl rfl rfl ?_
            refine vo_move_pv rfl rfl ?_
            refine vo_guard_on rfl rfl rfl ?_
            refine vo_binI rfl rfl rfl rfl trivial ?_
            refine vo_pick_t rfl rfl ?_
            refine vo_nil ?_
            refine hK50 _ ?_
            refine vc_cond rfl (fun hc23 => ?_) (fun hc23 => ?_)
            · try simp only [decide_eq_true_eq, decide_eq_false_iff_not, beq_iff_eq, bne_iff_ne, beq_eq_false_iff_ne, bne_eq_false_iff_eq, Bool.not_eq_true, Bool.not_eq_false, Bool.not_eq_eq_eq_not, Bool.not_true, Bool.not_false, List.length_map, Int.not_lt, Int.not_le, ne_eq, Decidable.not_not] at hc23
              refine vc_region ?_
              refine vo_fieldAddr_ptr rfl rfl Try.underlying60 rfl inf3 (by rw [sz3]; decide) ?_
              try simp only [Nat.zero_add]
              refine vo_store_var rfl rfl rfl rfl inf3 sz3 rfl ?_
              refine vo_stM ?_
              refine vo_nil ?_
              refine hK49 _ ?_
              refine vc_seq fun K51 hK51 => ?_
              refine vc_region ?_
              refine vo_load_varS rfl rfl rfl Try.underlying60 rfl inf60 sz60 rfl rfl ?_
              refine vo_store_varS rfl rfl rfl inf60 sz60 rfl ?_
              refine vo_stM ?_
              refine vo_nil ?_
              refine hK51 _ ?_
              refine vc_ret ?_
              change retQ _ _ _ _ _
              refine retQ_sel [] (srows := []) (.inr rfl) hC rfl rfl rfl rfl rfl rfl rfl ?_
              refine ⟨fr_eq (?_ : FoundM.mk _ _ _ _ = _), rfl⟩
              unfold bindM
              repeat' split
              all_goals first | rfl | (exfalso; omega)
            · try simp only [decide_eq_true_eq, decide_eq_false_iff_not, beq_iff_eq, bne_iff_ne, beq_eq_false_iff_ne, bne_eq_false_iff_eq, Bool.not_eq_true, Bool.not_eq_false, Bool.not_eq_eq_eq_not, Bool.not_true, Bool.not_false, List.length_map, Int.not_lt, Int.not_le, ne_eq, Decidable.not_not] at hc23
              refine vc_skip ?_
              refine hK49 _ ?_
              refine vc_seq fun K52 hK52 => ?_
              refine vc_region ?_
              refine vo_load_varS rfl rfl rfl Try.underlying60 rfl inf60 sz60 rfl rfl ?_
              refine vo_store_varS rfl rfl rfl inf60 sz60 rfl ?_
              refine vo_stM ?_
              refine vo_nil ?_
              refine hK52 _ ?_
              refine vc_ret ?_
              change retQ _ _ _ _ _
              refine retQ_sel [] (srows := []) (.inr rfl) hC rfl rfl rfl rfl rfl rfl rfl ?_
              refine ⟨fr_eq (?_ : FoundM.mk _ _ _ _ = _), rfl⟩
              unfold bindM
              repeat' split
              all_goals first | rfl | (exfalso; omega)
          · try simp only [decide_eq_true_eq, decide_eq_false_iff_not, beq_iff_eq, bne_iff_ne, beq_eq_false_iff_ne, bne_eq_false_iff_eq, Bool.not_eq_true, Bool.not_eq_false, Bool.not_eq_eq_eq_not, Bool.not_true, Bool.not_false, List.length_map, Int.not_lt, Int.not_le, ne_eq, Decidable.not_not] at hg22
            refine vo_guard_off rfl rfl rfl rfl rfl ?_
            refine vo_guard_off rfl rfl rfl rfl rfl ?_
            refine vo_pick_f rfl rfl ?_
            refine vo_nil ?_
            refine hK50 _ ?_
            refine vc_cond_f rfl ?_
            refine vc_skip ?_
            refine hK49 _ ?_
            refine vc_seq fun K53 hK53 => ?_
            refine vc_region ?_
            refine vo_load_varS rfl rfl rfl Try.underlying60 rfl inf60 sz60 rfl rfl ?_
            refine vo_store_varS rfl rfl rfl inf60 sz60 rfl ?_
            refine vo_stM ?_
            refine vo_nil ?_
            refine hK53 _ ?_
            refine vc_ret ?_
            change retQ _ _ _ _ _
            refine retQ_sel [] (srows := []) (.inr rfl) hC rfl rfl rfl rfl rfl rfl rfl ?_
            refine ⟨fr_eq (?_ : FoundM.mk _ _ _ _ = _), rfl⟩
            unfold bindM
            repeat' split
            all_goals first | rfl | (exfalso; omega)


theorem get_sat {w : WorldM} {x : Int} {name : Int}  (hw : SW w) (hO : hasO w x) : SatAt Try.prog 85 [.pv false (worldP w), i64 x, i64 name] [] (fun res rows => res = [.pv true (foundP (getM w x.toNat name))] ∧ rows = []) := by
  have hw0 := hw
  obtain ⟨⟨b1, b2⟩, ⟨a1, a2⟩, o1, o2⟩ := hw
  obtain ⟨hV, h0, h1⟩ := hO
  obtain ⟨x, rfl⟩ := Int.eq_ofNat_of_zero_le h0
  have hcl := hasO_cls (w := w) (x := (x : Int)) ⟨hV, h0, h1⟩
  rw [Int.toNat_natCast] at hcl
  have hof := getD_all o2 ⟨0, []⟩ SO_zero x
  unfold SO at hof
  have hnl := nms_lt (n := name) (l := (w.objs.getD x ⟨0, []⟩).pairs)
  refine sat_entry_G (rs := [(6, some (60, 4))]) Try.func85 rfl rfl (Nat.le_of_ble_eq_true rfl) (Nat.le_of_ble_eq_true rfl) (resTs1 ⟨_, _, Try.underlying60, rfl, inf60, sz60⟩) fun C hC => ?_
  rw [Try.ntmps85]
  replace hC : C.nb = 0 := hC
  refine vc_seq fun K1 hK1 => ?_
  refine vc_region ?_
  refine vo_box rfl rfl ?_
  refine vo_stM ?_
  refine vo_alloc Z60 rfl ?_
  refine vo_stM ?_
  refine vo_nil ?_
  refine hK1 _ ?_
  refine vc_seq fun K2 hK2 => ?_
  refine vc_region ?_
  refine vo_fieldAddr_ptr rfl rfl Try.underlying65 rfl inf63 (by rw [sz63]; decide) ?_
  try simp only [Nat.zero_add]
  refine vo_load_var rfl rfl rfl Try.underlying63 rfl rfl ?_
  refine vo_move_pv rfl rfl ?_
  refine vo_index_pv (.agg [(.int .i64 0), (.sl none 2 [])]) rfl rfl rfl E63.und inf118 sz118 sd sd ?_
  simp only [Int.toNat_natCast, Int.toNat_zero, getD_ints, getD_intss, getD_bools, getD_bytes, PV.cells, getD_ops, getD_pairs, getD_insts, getD_attrs, getD_attrss, getD_objs, getD_ordP]
  refine vo_load_adrS rfl rfl Try.underlying118 rfl inf118 sz118 rfl ?_
  refine vo_st (by (try simp only [St.put, PV.cells, PV.scal, List.drop_succ_cons, List.drop_zero, List.take_succ_cons, List.take_zero, List.map_cons, List.map_nil, Bool.or_true, Bool.or_false, Bool.false_or, Bool.true_or, opP, pairP, instP, heapP]); exact eq_refl _) ?_
  refine vo_alloc Z118 rfl ?_
  refine vo_stM ?_
  refine vo_store_varS rfl rfl rfl inf118 sz118 rfl ?_
  refine vo_stM ?_
  refine vo_nil ?_
  refine hK2 _ ?_
  refine vc_seq fun K3 hK3 => ?_
  refine vc_region ?_
  refine vo_load_varS rfl rfl rfl Try.underlying65 rfl inf65 sz65 rfl rfl ?_
  refine vo_fieldAddr_ptr rfl rfl Try.underlying118 rfl inf3 (by rw [sz3]; decide) ?_
  try simp only [Nat.zero_add]
  refine vo_load_var rfl rfl rfl Try.underlying3 rfl rfl ?_
  refine vo_move_pv rfl rfl ?_
  refine vo_call0 Try.func96 rfl rfl rfl rfl (find_sat hw0 hV hcl.1 hcl.2) ?_
  rintro _ _ ⟨rfl, rfl⟩
  refine ⟨rfl, rfl, .inl rfl, ?_⟩
  refine vo_stM ?_
  refine vo_move rfl ?_
  refine vo_stM ?_
  refine vo_extract rfl rfl rfl ?_
  refine vo_extract rfl rfl rfl ?_
  refine vo_alloc Z73 rfl ?_
  refine vo_stM ?_
  refine vo_assign_pv rfl rfl ?_
  refine vo_store_varS rfl rfl rfl inf73 sz73 rfl ?_
  refine vo_stM ?_
  refine vo_nil ?_
  refine hK3 _ ?_
  refine vc_seq fun K4 hK4 => ?_
  refine vc_region ?_
  refine vo_fieldAddr_ptr rfl rfl Try.underlying118 rfl inf116 (by rw [sz116]; decide) ?_
  try simp only [Nat.zero_add]
  refine vo_load_var rfl rfl rfl Try.underlying116 rfl rfl ?_
  refine vo_move_pv rfl rfl ?_
  refine vo_call0 Try.func135 rfl rfl rfl rfl (pairAt_sat (by omega)) ?_
  rintro _ _ ⟨rfl, rfl⟩
  refine ⟨rfl, rfl, .inl rfl, ?_⟩
  refine vo_stM ?_
  refine vo_assign_pv rfl rfl ?_
  refine vo_nil ?_
  refine hK4 _ ?_
  refine vc_seq fun K5 hK5 => ?_
  refine vc_region ?_
  refine vo_move_pv rfl rfl ?_
  refine vo_binI rfl rfl rfl rfl trivial ?_
  refine vo_move_pv rfl rfl ?_
  refine vo_split 31 rfl (fun hg1 => ?_) (fun hg1 => ?_)
  · try simp only [decide_eq_true_eq, decide_eq_false_iff_not, beq_iff_eq, bne_iff_ne, beq_eq_false_iff_ne, bne_eq_false_iff_eq, Bool.not_eq_true, Bool.not_eq_false, Bool.not_eq_eq_eq_not, Bool.not_true, Bool.not_false, List.length_map, Int.not_lt, Int.not_le, ne_eq, Decidable.not_not] at hg1
    refine vo_guard_on rfl rfl rfl ?_
    refine vo_fieldAddr_ptr rfl rfl Try.underlying73 rfl inf3 (by rw [sz3]; decide) ?_
    try simp only [Nat.zero_add]
    refine vo_guard_on rfl rfl rfl ?_
    refine vo_load_var rfl rfl rfl Try.underlying3 rfl rfl ?_
    refine vo_guard_on rfl rfl rfl ?_
    refine vo_binI rfl rfl rfl rfl trivial ?_
    refine vo_guard_on rfl rfl rfl ?_
    refine vo_move_pv rfl rfl ?_
    refine vo_split 35 rfl (fun hg2 => ?_) (fun hg2 => ?_)
    · try simp only [decide_eq_true_eq, decide_eq_false_iff_not, beq_iff_eq, bne_iff_ne, beq_eq_false_iff_ne, bne_eq_false_iff_eq, Bool.not_eq_true, Bool.not_eq_false, Bool.not_eq_eq_eq_not, Bool.not_true, Bool.not_false, List.length_map, Int.not_lt, Int.not_le, ne_eq, Decidable.not_not] at hg2
      refine vo_guard_off rfl rfl rfl rfl rfl ?_
      refine vo_guard_off rfl rfl rfl rfl rfl ?_
      refine vo_guard_off rfl rfl rfl rfl rfl ?_
      refine vo_guard_on rfl rfl rfl ?_
      refine vo_pick_t rfl rfl ?_
      refine vo_pick_t rfl rfl ?_
      refine vo_assign_pv rfl rfl ?_
      refine vo_nil ?_
      refine hK5 _ ?_
      refine vc_seq fun K6 hK6 => ?_
      refine vc_seq fun K7 hK7 => ?_
      refine vc_region ?_
      refine vo_move_pv rfl rfl ?_
      refine vo_nil ?_
      refine hK7 _ ?_
      refine vc_cond_t rfl ?_
      refine vc_seq fun K8 hK8 => ?_
      refine vc_region ?_
      refine vo_move_pv rfl rfl ?_
      refine vo_load_varS rfl rfl rfl Try.underlying73 rfl inf73 sz73 rfl rfl ?_
      refine vo_move_pv rfl rfl ?_
      refine vo_fieldAddr_ptr rfl rfl Try.underlying118 rfl inf3 (by rw [sz3]; decide) ?_
      try simp only [Nat.zero_add]
      refine vo_load_var rfl rfl rfl Try.underlying3 rfl rfl ?_
      refine vo_call0 Try.func97 rfl rfl rfl rfl bind_sat ?_
      rintro _ _ ⟨rfl, rfl⟩
      refine ⟨rfl, rfl, .inl rfl, ?_⟩
      refine vo_stM ?_
      refine vo_store_varS rfl rfl rfl inf60 sz60 rfl ?_
      refine vo_stM ?_
      refine vo_nil ?_
      refine hK8 _ ?_
      refine vc_ret ?_
      change retQ _ _ _ _ _
      refine retQ_sel [] (srows := []) (.inr rfl) hC rfl rfl rfl rfl rfl rfl rfl ?_
      refine ⟨?_, rfl⟩
      rw [Int.toNat_natCast]
      first
        | (exfalso; omega)
        | (refine fr_eq (?_ : bindM _ _ _ _ = _); unfold getM getR; first | rw [if_pos (by omega)] | rw [if_neg (by omega), if_neg (by omega), if_pos (by omega)])
        | (refine fr_eq (?_ : FoundM.mk _ _ _ _ = _); unfold getM getR; rw [if_neg (by omega), if_pos (by omega)])
        | (refine fr_eq (?_ : FoundM.mk _ _ _ _ = _); unfold getM getR; rw [if_neg (by omega), if_neg (by omega), if_neg (by omega)]; rfl)
    · try simp only [decide_eq_true_eq, decide_eq_false_iff_not, beq_iff_eq, bne_iff_ne, beq_eq_false_iff_ne, bne_eq_false_iff_eq, Bool.not_eq_true, Bool.not_eq_false, Bool.not_eq_eq_eq_not, Bool.not_true, Bool.not_false, List.length_map, Int.not_lt, Int.not_le, ne_eq, Decidable.not_not] at hg2
      refine vo_guard_on rfl rfl rfl ?_
      refine vo_fieldAddr_ptr rfl rfl Try.underlying73 rfl inf3 (by rw [sz3]; decide) ?_
      try simp only [Nat.zero_add]
      refine vo_guard_on rfl rfl rfl ?_
      refine vo_load_var rfl rfl rfl Try.underlying3 rfl rfl ?_
      refine vo_guard_on rfl rfl rfl ?_
      refine vo_binI rfl rfl rfl rfl trivial ?_
      refine vo_guard_on rfl rfl rfl ?_
      refine vo_pick_f rfl rfl ?_
      refine vo_pick_t rfl rfl ?_
      refine vo_assign_pv rfl rfl ?_
      refine vo_nil ?_
      refine hK5 _ ?_
      refine vc_seq fun K9 hK9 => ?_
      refine vc_seq fun K10 hK10 => ?_
      refine vc_region ?_
      refine vo_move_pv rfl rfl ?_
      refine vo_nil ?_
      refine hK10 _ ?_
      refine vc_cond rfl (fun hc3 => ?_) (fun hc3 => ?_)
      · try simp only [decide_eq_true_eq, decide_eq_false_iff_not, beq_iff_eq, bne_iff_ne, beq_eq_false_iff_ne, bne_eq_false_iff_eq, Bool.not_eq_true, Bool.not_eq_false, Bool.not_eq_eq_eq_not, Bool.not_true, Bool.not_false, List.length_map, Int.not_lt, Int.not_le, ne_eq, Decidable.not_not] at hc3
        refine vc_seq fun K11 hK11 => ?_
        refine vc_region ?_
        refine vo_move_pv rfl rfl ?_
        refine vo_load_varS rfl rfl rfl Try.underlying73 rfl inf73 sz73 rfl rfl ?_
        refine vo_move_pv rfl rfl ?_
        refine vo_fieldAddr_ptr rfl rfl Try.underlying118 rfl inf3 (by rw [sz3]; decide) ?_
        try simp only [Nat.zero_add]
        refine vo_load_var rfl rfl rfl Try.underlying3 rfl rfl ?_
        refine vo_call0 Try.func97 rfl rfl rfl rfl bind_sat ?_
        rintro _ _ ⟨rfl, rfl⟩
        refine ⟨rfl, rfl, .inl rfl, ?_⟩
        refine vo_stM ?_
        refine vo_store_varS rfl rfl rfl inf60 sz60 rfl ?_
        refine vo_stM ?_
        refine vo_nil ?_
        refine hK11 _ ?_
        refine vc_ret ?_
        change retQ _ _ _ _ _
        refine retQ_sel [] (srows := []) (.inr rfl) hC rfl rfl rfl rfl rfl rfl rfl ?_
        refine ⟨?_, rfl⟩
        rw [Int.toNat_natCast]
        first
          | (exfalso; omega)
          | (refine fr_eq (?_ : bindM _ _ _ _ = _); unfold getM getR; first | rw [if_pos (by omega)] | rw [if_neg (by omega), if_neg (by omega), if_pos (by omega)])
          | (refine fr_eq (?_ : FoundM.mk _ _ _ _ = _); unfold getM getR; rw [if_neg (by omega), if_pos (by omega)])
          | (refine fr_eq (?_ : FoundM.mk _ _ _ _ = _); unfold getM getR; rw [if_neg (by omega), if_neg (by omega), if_neg (by omega)]; rfl)
      · try simp only [decide_eq_true_eq, decide_eq_false_iff_not, beq_iff_eq, bne_iff_ne, beq_eq_false_iff_ne, bne_eq_false_iff_eq, Bool.not_eq_true, Bool.not_eq_false, Bool.not_eq_eq_eq_not, Bool.not_true, Bool.not_false, List.length_map, Int.not_lt, Int.not_le, ne_eq, Decidable.not_not] at hc3
        refine vc_skip ?_
        refine hK9 _ ?_
        refine vc_seq fun K12 hK12 => ?_
        refine vc_seq fun K13 hK13 => ?_
        refine vc_region ?_
        refine vo_move_pv rfl rfl ?_
        refine vo_binI rfl rfl rfl rfl trivial ?_
        refine vo_nil ?_
        refine hK13 _ ?_
        refine vc_cond rfl (fun hc4 => ?_) (fun hc4 => ?_)
        · try simp only [decide_eq_true_eq, decide_eq_false_iff_not, beq_iff_eq, bne_iff_ne, beq_eq_false_iff_ne, bne_eq_false_iff_eq, Bool.not_eq_true, Bool.not_eq_false, Bool.not_eq_eq_eq_not, Bool.not_true, Bool.not_false, List.length_map, Int.not_lt, Int.not_le, ne_eq, Decidable.not_not] at hc4
          refine vc_seq fun K14 hK14 => ?_
          refine vc_region ?_
          refine vo_fieldAddr_ptr rfl rfl Try.underlying118 rfl inf116 (by rw [sz116]; decide) ?_
          try simp only [Nat.zero_add]
          refine vo_load_var rfl rfl rfl Try.underlying116 rfl rfl ?_
          refine vo_move_pv rfl rfl ?_
          refine vo_index_pv (.agg [(.int .i64 0), (.int .i64 0)]) rfl rfl rfl E116.und inf128 sz128 sd sd ?_
          simp only [Int.toNat_natCast, Int.toNat_zero, getD_ints, getD_intss, getD_bools, getD_bytes, PV.cells, getD_ops, getD_pairs, getD_insts, getD_attrs, getD_attrss, getD_objs, getD_ordP]
          refine vo_fieldAddr_adr rfl rfl Try.underlying128 rfl inf3 (by rw [sz3]; decide) ?_
          refine vo_load_adr rfl rfl Try.underlying3 rfl ?_
          refine vo_move_pv rfl rfl ?_
          refine vo_build S60 rfl rfl rfl ?_
          refine vo_stM ?_
          refine vo_store_varS rfl rfl rfl inf60 sz60 rfl ?_
          refine vo_stM ?_
          refine vo_nil ?_
          refine hK14 _ ?_
          refine vc_ret ?_
          change retQ _ _ _ _ _
          refine retQ_sel [] (srows := []) (.inr rfl) hC rfl rfl rfl rfl rfl rfl rfl ?_
          refine ⟨?_, rfl⟩
          rw [Int.toNat_natCast]
          first
            | (exfalso; omega)
            | (refine fr_eq (?_ : bindM _ _ _ _ = _); unfold getM getR; first | rw [if_pos (by omega)] | rw [if_neg (by omega), if_neg (by omega), if_pos (by omega)])
            | (refine fr_eq (?_ : FoundM.mk _ _ _ _ = _); unfold getM getR; rw [if_neg (by omega), if_pos (by omega)])
            | (refine fr_eq (?_ : FoundM.mk _ _ _ _ = _); unfold getM getR; rw [if_neg (by omega), if_neg (by omega), if_neg (by omega)]; rfl)
        · try simp only [decide_eq_true_eq, decide_eq_false_iff_not, beq_iff_eq, bne_iff_ne, beq_eq_false_iff_ne, bne_eq_false_iff_eq, Bool.not_eq_true, Bool.not_eq_false, Bool.not_eq_eq_eq_not, Bool.not_true, Bool.not_false, List.length_map, Int.not_lt, Int.not_le, ne_eq, Decidable.not_not] at hc4
          refine vc_skip ?_
          refine hK12 _ ?_
          refine vc_seq fun K15 hK15 => ?_
          refine vc_seq fun K16 hK16 => ?_
          refine vc_region ?_
          refine vo_move_pv rfl rfl ?_
          refine vo_binI rfl rfl rfl rfl trivial ?_
          refine vo_nil ?_
          refine hK16 _ ?_
          refine vc_cond rfl (fun hc5 => ?_) (fun hc5 => ?_)
          · try simp only [decide_eq_true_eq, decide_eq_false_iff_not, beq_iff_eq, bne_iff_ne, beq_eq_false_iff_ne, bne_eq_false_iff_eq, Bool.not_eq_true, Bool.not_eq_false, Bool.not_eq_eq_eq_not, Bool.not_true, Bool.not_false, List.length_map, Int.not_lt, Int.not_le, ne_eq, Decidable.not_not] at hc5
            refine vc_seq fun K17 hK17 => ?_
            refine vc_region ?_
            refine vo_move_pv rfl rfl ?_
            refine vo_load_varS rfl rfl rfl Try.underlying73 rfl inf73 sz73 rfl rfl ?_
            refine vo_move_pv rfl rfl ?_
            refine vo_fieldAddr_ptr rfl rfl Try.underlying118 rfl inf3 (by rw [sz3]; decide) ?_
            try simp only [Nat.zero_add]
            refine vo_load_var rfl rfl rfl Try.underlying3 rfl rfl ?_
            refine vo_call0 Try.func97 rfl rfl rfl rfl bind_sat ?_
            rintro _ _ ⟨rfl, rfl⟩
            refine ⟨rfl, rfl, .inl rfl, ?_⟩
            refine vo_stM ?_
            refine vo_store_varS rfl rfl rfl inf60 sz60 rfl ?_
            refine vo_stM ?_
            refine vo_nil ?_
            refine hK17 _ ?_
            refine vc_ret ?_
            change retQ _ _ _ _ _
            refine retQ_sel [] (srows := []) (.inr rfl) hC rfl rfl rfl rfl rfl rfl rfl ?_
            refine ⟨?_, rfl⟩
            rw [Int.toNat_natCast]
            first
              | (exfalso; omega)
              | (refine fr_eq (?_ : bindM _ _ _ _ = _); unfold getM getR; first | rw [if_pos (by omega)] | rw [if_neg (by omega), if_neg (by omega), if_pos (by omega)])
              | (refine fr_eq (?_ : FoundM.mk _ _ _ _ = _); unfold getM getR; rw [if_neg (by omega), if_pos (by omega)])
              | (refine fr_eq (?_ : FoundM.mk _ _ _ _ = _); unfold getM getR; rw [if_neg (by omega), if_neg (by omega), if_neg (by omega)]; rfl)
          · try simp only [decide_eq_true_eq, decide_eq_false_iff_not, beq_iff_eq, bne_iff_ne, beq_eq_false_iff_ne, bne_eq_false_iff_eq, Bool.not_eq_true, Bool.not_eq_false, Bool.not_eq_eq_eq_not, Bool.not_true, Bool.not_false, List.length_map, Int.not_lt, Int.not_le, ne_eq, Decidable.not_not] at hc5
            refine vc_skip ?_
            refine hK15 _ ?_
            refine vc_seq fun K18 hK18 => ?_
            refine vc_region ?_
            refine vo_build S60 rfl rfl rfl ?_
            refine vo_stM ?_
            refine vo_store_varS rfl rfl rfl inf60 sz60 rfl ?_
            refine vo_stM ?_
            refine vo_nil ?_
            refine hK18 _ ?_
            refine vc_ret ?_
            change retQ _ _ _ _ _
            refine retQ_sel [] (srows := []) (.inr rfl) hC rfl rfl rfl rfl rfl rfl rfl ?_
            refine ⟨?_, rfl⟩
            rw [Int.toNat_natCast]
            first
              | (exfalso; omega)
              | (refine fr_eq (?_ : bindM _ _ _ _ = _); unfold getM getR; first | rw [if_pos (by omega)] | rw [if_neg (by omega), if_neg (by omega), if_pos (by omega)])
              | (refine fr_eq (?_ : FoundM.mk _ _ _ _ = _); unfold getM getR; rw [if_neg (by omega), if_pos (by omega)])
              | (refine fr_eq (?_ : FoundM.mk _ _ _ _ = _); unfold getM getR; rw [if_neg (by omega), if_neg (by omega), if_neg (by omega)]; rfl)
  · try simp only [decide_eq_true_eq, decide_eq_false_iff_not, beq_iff_eq, bne_iff_ne, beq_eq_false_iff_ne, bne_eq_false_iff_eq, Bool.not_eq_true, Bool.not_eq_false, Bool.not_eq_eq_eq_not, Bool.not_true, Bool.not_false, List.length_map, Int.not_lt, Int.not_le, ne_eq, Decidable.not_not] at hg1
    refine vo_guard_off rfl rfl rfl rfl rfl ?_
    refine vo_guard_off rfl rfl rfl rfl rfl ?_
    refine vo_guard_off rfl rfl rfl rfl rfl ?_
    refine vo_guard_off rfl rfl rfl rfl rfl ?_
    refine vo_guard_und rfl rfl rfl rfl ?_
    refine vo_guard_und rfl rfl rfl rfl ?_
    refine vo_guard_und rfl rfl rfl rfl ?_
    refine vo_guard_off rfl rfl rfl rfl rfl ?_
    refine vo_pick_f rfl rfl ?_
    refine vo_assign_pv rfl rfl ?_
    refine vo_nil ?_
    refine hK5 _ ?_
    refine vc_seq fun K19 hK19 => ?_
    refine vc_seq fun K20 hK20 => ?_
    refine vc_region ?_
    refine vo_move_pv rfl rfl ?_
    refine vo_nil ?_
    refine hK20 _ ?_
    refine vc_cond_f rfl ?_
    refine vc_skip ?_
    refine hK19 _ ?_
    refine vc_seq fun K21 hK21 => ?_
    refine vc_seq fun K22 hK22 => ?_
    refine vc_region ?_
    refine vo_move_pv rfl rfl ?_
    refine vo_binI rfl rfl rfl rfl trivial ?_
    refine vo_nil ?_
    refine hK22 _ ?_
    refine vc_cond rfl (fun hc6 => ?_) (fun hc6 => ?_)
    · try simp only [decide_eq_true_eq, decide_eq_false_iff_not, beq_iff_eq, bne_iff_ne, beq_eq_false_iff_ne, bne_eq_false_iff_eq, Bool.not_eq_true, Bool.not_eq_false, Bool.not_eq_eq_eq_not, Bool.not_true, Bool.not_false, List.length_map, Int.not_lt, Int.not_le, ne_eq, Decidable.not_not] at hc6
      refine vc_seq fun K23 hK23 => ?_
      refine vc_region ?_
      refine vo_fieldAddr_ptr rfl rfl Try.underlying118 rfl inf116 (by rw [sz116]; decide) ?_
      try simp only [Nat.zero_add]
      refine vo_load_var rfl rfl rfl Try.underlying116 rfl rfl ?_
      refine vo_move_pv rfl rfl ?_
      refine vo_index_pv (.agg [(.int .i64 0), (.int .i64 0)]) rfl rfl rfl E116.und inf128 sz128 sd sd ?_
      simp only [Int.toNat_natCast, Int.toNat_zero, getD_ints, getD_intss, getD_bools, getD_bytes, PV.cells, getD_ops, getD_pairs, getD_insts, getD_attrs, getD_attrss, getD_objs, getD_ordP]
      refine vo_fieldAddr_adr rfl rfl Try.underlying128 rfl inf3 (by rw [sz3]; decide) ?_
      refine vo_load_adr rfl rfl Try.underlying3 rfl ?_
      refine vo_move_pv rfl rfl ?_
      refine vo_build S60 rfl rfl rfl ?_
      refine vo_stM ?_
      refine vo_store_varS rfl rfl rfl inf60 sz60 rfl ?_
      refine vo_stM ?_
      refine vo_nil ?_
      refine hK23 _ ?_
      refine vc_ret ?_
      change retQ _ _ _ _ _
      refine retQ_sel [] (srows := []) (.inr rfl) hC rfl rfl rfl rfl rfl rfl rfl ?_
      refine ⟨?_, rfl⟩
      rw [Int.toNat_natCast]
      first
        | (exfalso; omega)
        | (refine fr_eq (?_ : bindM _ _ _ _ = _); unfold getM getR; first | rw [if_pos (by omega)] | rw [if_neg (by omega), if_neg (by omega), if_pos (by omega)])
        | (refine fr_eq (?_ : FoundM.mk _ _ _ _ = _); unfold getM getR; rw [if_neg (by omega), if_pos (by omega)])
        | (refine fr_eq (?_ : FoundM.mk _ _ _ _ = _); unfold getM getR; rw [if_neg (by omega), if_neg (by omega), if_neg (by omega)]; rfl)
    · try simp only [decide_eq_true_eq, decide_eq_false_iff_not, beq_iff_eq, bne_iff_ne, beq_eq_false_iff_ne, bne_eq_false_iff_eq, Bool.not_eq_true, Bool.not_eq_false, Bool.not_eq_eq_eq_not, Bool.not_true, Bool.not_false, List.length_map, Int.not_lt, Int.not_le, ne_eq, Decidable.not_not] at hc6
      refine vc_skip ?_
      refine hK21 _ ?_
      refine vc_seq fun K24 hK24 => ?_
      refine vc_seq fun K25 hK25 => ?_
      refine vc_region ?_
      refine vo_move_pv rfl rfl ?_
      refine vo_binI rfl rfl rfl rfl trivial ?_
      refine vo_nil ?_
      refine hK25 _ ?_
      refine vc_cond rfl (fun hc7 => ?_) (fun hc7 => ?_)
      · try simp only [decide_eq_true_eq, decide_eq_false_iff_not, beq_iff_eq, bne_iff_ne, beq_eq_false_iff_ne, bne_eq_false_iff_eq, Bool.not_eq_true, Bool.not_eq_false, Bool.not_eq_eq_eq_not, Bool.not_true, Bool.not_false, List.length_map, Int.not_lt, Int.not_le, ne_eq, Decidable.not_not] at hc7
        refine vc_seq fun K26 hK26 => ?_
        refine vc_region ?_
        refine vo_move_pv rfl rfl ?_
        refine vo_load_varS rfl rfl rfl Try.underlying73 rfl inf73 sz73 rfl rfl ?_
        refine vo_move_pv rfl rfl ?_
        refine vo_fieldAddr_ptr rfl rfl Try.underlying118 rfl inf3 (by rw [sz3]; decide) ?_
        try simp only [Nat.zero_add]
        refine vo_load_var rfl rfl rfl Try.underlying3 rfl rfl ?_
        refine vo_call0 Try.func97 rfl rfl rfl rfl bind_sat ?_
        rintro _ _ ⟨rfl, rfl⟩
        refine ⟨rfl, rfl, .inl rfl, ?_⟩
        refine vo_stM ?_
        refine vo_store_varS rfl rfl rfl inf60 sz60 rfl ?_
        refine vo_stM ?_
        refine vo_nil ?_
        refine hK26 _ ?_
        refine vc_ret ?_
        change retQ _ _ _ _ _
        refine retQ_sel [] (srows := []) (.inr rfl) hC rfl rfl rfl rfl rfl rfl rfl ?_
        refine ⟨?_, rfl⟩
        rw [Int.toNat_natCast]
        first
          | (exfalso; omega)
          | (refine fr_eq (?_ : bindM _ _ _ _ = _); unfold getM getR; first | rw [if_pos (by omega)] | rw [if_neg (by omega), if_neg (by omega), if_pos (by omega)])
          | (refine fr_eq (?_ : FoundM.mk _ _ _ _ = _); unfold getM getR; rw [if_neg (by omega), if_pos (by omega)])
          | (refine fr_eq (?_ : FoundM.mk _ _ _ _ = _); unfold getM getR; rw [if_neg (by omega), if_neg (by omega), if_neg (by omega)]; rfl)
      · try simp only [decide_eq_true_eq, decide_eq_false_iff_not, beq_iff_eq, bne_iff_ne, beq_eq_false_iff_ne, bne_eq_false_iff_eq, Bool.not_eq_true, Bool.not_eq_false, Bool.not_eq_eq_eq_not, Bool.not_true, Bool.not_false, List.length_map, Int.not_lt, Int.not_le, ne_eq, Decidable.not_not] at hc7
        refine vc_skip ?_
        refine hK24 _ ?_
        refine vc_seq fun K27 hK27 => ?_
        refine vc_region ?_
        refine vo_build S60 rfl rfl rfl ?_
        refine vo_stM ?_
        refine vo_store_varS rfl rfl rfl inf60 sz60 rfl ?_
        refine vo_stM ?_
        refine vo_nil ?_
        refine hK27 _ ?_
        refine vc_ret ?_
        change retQ _ _ _ _ _
        refine retQ_sel [] (srows := []) (.inr rfl) hC rfl rfl rfl rfl rfl rfl rfl ?_
        refine ⟨?_, rfl⟩
        rw [Int.toNat_natCast]
        first
          | (exfalso; omega)
          | (refine fr_eq (?_ : bindM _ _ _ _ = _); unfold getM getR; first | rw [if_pos (by omega)] | rw [if_neg (by omega), if_neg (by omega), if_pos (by omega)])
          | (refine fr_eq (?_ : FoundM.mk _ _ _ _ = _); unfold getM getR; rw [if_neg (by omega), if_pos (by omega)])
          | (refine fr_eq (?_ : FoundM.mk _ _ _ _ = _); unfold getM getR; rw [if_neg (by omega), if_neg (by omega), if_neg (by omega)]; rfl)


theorem specGetAttr_sat {w : WorldM} {x : Int} {name : Int}  (hw : SW w) : SatAt Try.prog 36 [.pv false (worldP w), i64 x, i64 name] [] (fun res rows => res = [.pv true (foundP (getAttrM w x name))] ∧ rows = []) := by
  refine sat_entry_G (rs := [(6, some (60, 4))]) Try.func36 rfl rfl (Nat.le_of_ble_eq_true rfl) (Nat.le_of_ble_eq_true rfl) (resTs1 ⟨_, _, Try.underlying60, rfl, inf60, sz60⟩) fun C hC => ?_
  rw [Try.ntmps36]
  replace hC : C.nb = 0 := hC
  refine vc_seq fun K1 hK1 => ?_
  refine vc_region ?_
  refine vo_box rfl rfl ?_
  refine vo_stM ?_
  refine vo_alloc Z60 rfl ?_
  refine vo_stM ?_
  refine vo_nil ?_
  refine hK1 _ ?_
  refine vc_seq fun K2 hK2 => ?_
  refine vc_seq fun K3 hK3 => ?_
  refine vc_region ?_
  refine vo_load_varS rfl rfl rfl Try.underlying65 rfl inf65 sz65 rfl rfl ?_
  refine vo_move_pv rfl rfl ?_
  refine vo_call0 Try.func84 rfl rfl rfl rfl (validObject_sat hw) ?_
  rintro _ _ ⟨rfl, rfl⟩
  refine ⟨rfl, rfl, .inl rfl, ?_⟩
  refine vo_stM ?_
  refine vo_not rfl rfl ?_
  refine vo_nil ?_
  refine hK3 _ ?_
  refine vc_cond rfl (fun hc1 => ?_) (fun hc1 => ?_)
  · try simp only [decide_eq_true_eq, decide_eq_false_iff_not, beq_iff_eq, bne_iff_ne, beq_eq_false_iff_ne, bne_eq_false_iff_eq, Bool.not_eq_true, Bool.not_eq_false, Bool.not_eq_eq_eq_not, Bool.not_true, Bool.not_false, List.length_map, Int.not_lt, Int.not_le, ne_eq, Decidable.not_not] at hc1
    refine vc_seq fun K4 hK4 => ?_
    refine vc_region ?_
    refine vo_build S60 rfl rfl rfl ?_
    refine vo_stM ?_
    refine vo_store_varS rfl rfl rfl inf60 sz60 rfl ?_
    refine vo_stM ?_
    refine vo_nil ?_
    refine hK4 _ ?_
    refine vc_ret ?_
    change retQ _ _ _ _ _
    refine retQ_sel [] (srows := []) (.inr rfl) hC rfl rfl rfl rfl rfl rfl rfl ?_
    refine ⟨fr_eq (?_ : FoundM.mk _ _ _ _ = _), rfl⟩
    unfold getAttrM; rw [if_neg (by assumption)]; rfl
  · try simp only [decide_eq_true_eq, decide_eq_false_iff_not, beq_iff_eq, bne_iff_ne, beq_eq_false_iff_ne, bne_eq_false_iff_eq, Bool.not_eq_true, Bool.not_eq_false, Bool.not_eq_eq_eq_not, Bool.not_true, Bool.not_false, List.length_map, Int.not_lt, Int.not_le, ne_eq, Decidable.not_not] at hc1
    refine vc_skip ?_
    refine hK2 _ ?_
    refine vc_seq fun K5 hK5 => ?_
    refine vc_region ?_
    refine vo_load_varS rfl rfl rfl Try.underlying65 rfl inf65 sz65 rfl rfl ?_
    refine vo_move_pv rfl rfl ?_
    refine vo_move_pv rfl rfl ?_
    refine vo_call0 Try.func85 rfl rfl rfl rfl (get_sat hw hc1) ?_
    rintro _ _ ⟨rfl, rfl⟩
    refine ⟨rfl, rfl, .inl rfl, ?_⟩
    refine vo_stM ?_
    refine vo_store_varS rfl rfl rfl inf60 sz60 rfl ?_
    refine vo_stM ?_
    refine vo_nil ?_
    refine hK5 _ ?_
    refine vc_ret ?_
    change retQ _ _ _ _ _
    refine retQ_sel [] (srows := []) (.inr rfl) hC rfl rfl rfl rfl rfl rfl rfl ?_
    unfold getAttrM; rw [if_pos hc1]; exact ⟨rfl, rfl⟩


theorem eqFound_sat {a : FoundM} {b : FoundM}   : SatAt Try.prog 39 [.pv false (foundP a), .pv false (foundP b)] [] (fun res rows => res = [bo (decide (a = b))] ∧ rows = []) := by
  refine sat_entry_G (rs := [(4, none)]) Try.func39 rfl rfl (Nat.le_of_ble_eq_true rfl) (Nat.le_of_ble_eq_true rfl) (resTs1 trivial) fun C hC => ?_
  rw [Try.ntmps39]
  replace hC : C.nb = 0 := hC
  refine vc_seq fun K1 hK1 => ?_
  refine vc_region ?_
  refine vo_box rfl rfl ?_
  refine vo_stM ?_
  refine vo_box rfl rfl ?_
  refine vo_stM ?_
  refine vo_assign_pv rfl rfl ?_
  refine vo_nil ?_
  refine hK1 _ ?_
  refine vc_seq fun K2 hK2 => ?_
  refine vc_seq fun K3 hK3 => ?_
  refine vc_region ?_
  refine vo_fieldAddr_ptr rfl rfl Try.underlying60 rfl inf3 (by rw [sz3]; decide) ?_
  try simp only [Nat.zero_add]
  refine vo_load_var rfl rfl rfl Try.underlying3 rfl rfl ?_
  refine vo_fieldAddr_ptr rfl rfl Try.underlying60 rfl inf3 (by rw [sz3]; decide) ?_
  try simp only [Nat.zero_add]
  refine vo_load_var rfl rfl rfl Try.underlying3 rfl rfl ?_
  refine vo_binI rfl rfl rfl rfl trivial ?_
  refine vo_nil ?_
  refine hK3 _ ?_
  refine vc_cond rfl (fun hc1 => ?_) (fun hc1 => ?_)
  · try simp only [decide_eq_true_eq, decide_eq_false_iff_not, beq_iff_eq, bne_iff_ne, beq_eq_false_iff_ne, bne_eq_false_iff_eq, Bool.not_eq_true, Bool.not_eq_false, Bool.not_eq_eq_eq_not, Bool.not_true, Bool.not_false, List.length_map, Int.not_lt, Int.not_le, ne_eq, Decidable.not_not] at hc1
    refine vc_seq fun K4 hK4 => ?_
    refine vc_region ?_
    refine vo_assign_pv rfl rfl ?_
    refine vo_nil ?_
    refine hK4 _ ?_
    refine vc_ret ?_
    change retQ _ _ _ _ _
    refine retQ_sel [] (srows := []) (.inr rfl) hC rfl rfl rfl rfl rfl rfl rfl ?_
    refine ⟨?_, rfl⟩
    refine (congrArg (fun b => [bo b]) (?_ : _ = _) : [bo _] = [bo _])
    cases a; cases b; simp_all
  · try simp only [decide_eq_true_eq, decide_eq_false_iff_not, beq_iff_eq, bne_iff_ne, beq_eq_false_iff_ne, bne_eq_false_iff_eq, Bool.not_eq_true, Bool.not_eq_false, Bool.not_eq_eq_eq_not, Bool.not_true, Bool.not_false, List.length_map, Int.not_lt, Int.not_le, ne_eq, Decidable.not_not] at hc1
    refine vc_skip ?_
    refine hK2 _ ?_
    refine vc_seq fun K5 hK5 => ?_
    refine vc_seq fun K6 hK6 => ?_
    refine vc_region ?_
    refine vo_fieldAddr_ptr rfl rfl Try.underlying60 rfl inf3 (by rw [sz3]; decide) ?_
    try simp only [Nat.zero_add]
    refine vo_load_var rfl rfl rfl Try.underlying3 rfl rfl ?_
    refine vo_fieldAddr_ptr rfl rfl Try.underlying60 rfl inf3 (by rw [sz3]; decide) ?_
    try simp only [Nat.zero_add]
    refine vo_load_var rfl rfl rfl Try.underlying3 rfl rfl ?_
    refine vo_binI rfl rfl rfl rfl trivial ?_
    refine vo_nil ?_
    refine hK6 _ ?_
    refine vc_cond rfl (fun hc2 => ?_) (fun hc2 => ?_)
    · try simp only [decide_eq_true_eq, decide_eq_false_iff_not, beq_iff_eq, bne_iff_ne, beq_eq_false_iff_ne, bne_eq_false_iff_eq, Bool.not_eq_true, Bool.not_eq_false, Bool.not_eq_eq_eq_not, Bool.not_true, Bool.not_false, List.length_map, Int.not_lt, Int.not_le, ne_eq, Decidable.not_not] at hc2
      refine vc_seq fun K7 hK7 => ?_
      refine vc_region ?_
      refine vo_assign_pv rfl rfl ?_
      refine vo_nil ?_
      refine hK7 _ ?_
      refine vc_ret ?_
      change retQ _ _ _ _ _
      refine retQ_sel [] (srows := []) (.inr rfl) hC rfl rfl rfl rfl rfl rfl rfl ?_
      refine ⟨?_, rfl⟩
      refine (congrArg (fun b => [bo b]) (?_ : _ = _) : [bo _] = [bo _])
      cases a; cases b; simp_all
    · try simp only [decide_eq_true_eq, decide_eq_false_iff_not, beq_iff_eq, bne_iff_ne, beq_eq_false_iff_ne, bne_eq_false_iff_eq, Bool.not_eq_true, Bool.not_eq_false, Bool.not_eq_eq_eq_not, Bool.not_true, Bool.not_false, List.length_map, Int.not_lt, Int.not_le, ne_eq, Decidable.not_not] at hc2
      refine vc_skip ?_
      refine hK5 _ ?_
      refine vc_seq fun K8 hK8 => ?_
      refine vc_seq fun K9 hK9 => ?_
      refine vc_region ?_
      refine vo_fieldAddr_ptr rfl rfl Try.underlying60 rfl inf3 (by rw [sz3]; decide) ?_
      try simp only [Nat.zero_add]
      refine vo_load_var rfl rfl rfl Try.underlying3 rfl rfl ?_
      refine vo_fieldAddr_ptr rfl rfl Try.underlying60 rfl inf3 (by rw [sz3]; decide) ?_
      try simp only [Nat.zero_add]
      refine vo_load_var rfl rfl rfl Try.underlying3 rfl rfl ?_
      refine vo_binI rfl rfl rfl rfl trivial ?_
      refine vo_nil ?_
      refine hK9 _ ?_
      refine vc_cond rfl (fun hc3 => ?_) (fun hc3 => ?_)
      · try simp only [decide_eq_true_eq, decide_eq_false_iff_not, beq_iff_eq, bne_iff_ne, beq_eq_false_iff_ne, bne_eq_false_iff_eq, Bool.not_eq_true, Bool.not_eq_false, Bool.not_eq_eq_eq_not, Bool.not_true, Bool.not_false, List.length_map, Int.not_lt, Int.not_le, ne_eq, Decidable.not_not] at hc3
        refine vc_seq fun K10 hK10 => ?_
        refine vc_region ?_
        refine vo_assign_pv rfl rfl ?_
        refine vo_nil ?_
        refine hK10 _ ?_
        refine vc_ret ?_
        change retQ _ _ _ _ _
        refine retQ_sel [] (srows := []) (.inr rfl) hC rfl rfl rfl rfl rfl rfl rfl ?_
        refine ⟨?_, rfl⟩
        refine (congrArg (fun b => [bo b]) (?_ : _ = _) : [bo _] = [bo _])
        cases a; cases b; simp_all
      · try simp only [decide_eq_true_eq, decide_eq_false_iff_not, beq_iff_eq, bne_iff_ne, beq_eq_false_iff_ne, bne_eq_false_iff_eq, Bool.not_eq_true, Bool.not_eq_false, Bool.not_eq_eq_eq_not, Bool.not_true, Bool.not_false, List.length_map, Int.not_lt, Int.not_le, ne_eq, Decidable.not_not] at hc3
        refine vc_skip ?_
        refine hK8 _ ?_
        refine vc_seq fun K11 hK11 => ?_
        refine vc_seq fun K12 hK12 => ?_
        refine vc_region ?_
        refine vo_fieldAddr_ptr rfl rfl Try.underlying60 rfl inf3 (by rw [sz3]; decide) ?_
        try simp only [Nat.zero_add]
        refine vo_load_var rfl rfl rfl Try.underlying3 rfl rfl ?_
        refine vo_fieldAddr_ptr rfl rfl Try.underlying60 rfl inf3 (by rw [sz3]; decide) ?_
        try simp only [Nat.zero_add]
        refine vo_load_var rfl rfl rfl Try.underlying3 rfl rfl ?_
        refine vo_binI rfl rfl rfl rfl trivial ?_
        refine vo_nil ?_
        refine hK12 _ ?_
        refine vc_cond rfl (fun hc4 => ?_) (fun hc4 => ?_)
        · try simp only [decide_eq_true_eq, decide_eq_false_iff_not, beq_iff_eq, bne_iff_ne, beq_eq_false_iff_ne, bne_eq_false_iff_eq, Bool.not_eq_true, Bool.not_eq_false, Bool.not_eq_eq_eq_not, Bool.not_true, Bool.not_false, List.length_map, Int.not_lt, Int.not_le, ne_eq, Decidable.not_not] at hc4
          refine vc_seq fun K13 hK13 => ?_
          refine vc_region ?_
          refine vo_assign_pv rfl rfl ?_
          refine vo_nil ?_
          refine hK13 _ ?_
          refine vc_ret ?_
          change retQ _ _ _ _ _
          refine retQ_sel [] (srows := []) (.inr rfl) hC rfl rfl rfl rfl rfl rfl rfl ?_
          refine ⟨?_, rfl⟩
          refine (congrArg (fun b => [bo b]) (?_ : _ = _) : [bo _] = [bo _])
          cases a; cases b; simp_all
        · try simp only [decide_eq_true_eq, decide_eq_false_iff_not, beq_iff_eq, bne_iff_ne, beq_eq_false_iff_ne, bne_eq_false_iff_eq, Bool.not_eq_true, Bool.not_eq_false, Bool.not_eq_eq_eq_not, Bool.not_true, Bool.not_false, List.length_map, Int.not_lt, Int.not_le, ne_eq, Decidable.not_not] at hc4
          refine vc_skip ?_
          refine hK11 _ ?_
          refine vc_seq fun K14 hK14 => ?_
          refine vc_region ?_
          refine vo_assign_pv rfl rfl ?_
          refine vo_nil ?_
          refine hK14 _ ?_
          refine vc_ret ?_
          change retQ _ _ _ _ _
          refine retQ_sel [] (srows := []) (.inr rfl) hC rfl rfl rfl rfl rfl rfl rfl ?_
          refine ⟨?_, rfl⟩
          refine (congrArg (fun b => [bo b]) (?_ : _ = _) : [bo _] = [bo _])
          cases a; cases b; simp_all


theorem FnExactGetAttr_sat {a : WorldM} {x : Int} {name : Int}  (ha : GW63 a) : SatAt Try.prog 7 [.pv false (worldP a), i64 x, i64 name] [] (fun res rows => res = [bo true] ∧ rows = []) := by
  refine sat_entry_G (rs := [(6, none)]) Try.func7 rfl rfl (Nat.le_of_ble_eq_true rfl) (Nat.le_of_ble_eq_true rfl) (resTs1 trivial) fun C hC => ?_
  rw [Try.ntmps7]
  replace hC : C.nb = 0 := hC
  refine vc_seq fun K1 hK1 => ?_
  refine vc_region ?_
  refine vo_box rfl rfl ?_
  refine vo_stM ?_
  refine vo_assign_pv rfl rfl ?_
  refine vo_nil ?_
  refine hK1 _ ?_
  refine vc_seq fun K2 hK2 => ?_
  refine vc_region ?_
  refine vo_assign_pv rfl rfl ?_
  refine vo_nil ?_
  refine hK2 _ ?_
  refine vc_seq fun K3 hK3 => ?_
  refine vc_region ?_
  refine vo_load_varS rfl rfl rfl Try.underlying57 rfl inf57 sz57 rfl rfl ?_
  refine vo_move_pv rfl rfl ?_
  refine vo_call0 Try.func35 rfl rfl rfl rfl (szWorld_sat ha (by omega) (by omega)) ?_
  rintro _ _ ⟨v, hv, rfl, rfl⟩
  refine ⟨rfl, rfl, .inl rfl, ?_⟩
  refine vo_stM ?_
  refine vo_assign_pv rfl rfl ?_
  refine vo_nil ?_
  refine hK3 _ ?_
  refine vc_seq fun K4 hK4 => ?_
  refine vc_seq fun K5 hK5 => ?_
  refine vc_region ?_
  refine vo_move_pv rfl rfl ?_
  refine vo_binI rfl rfl rfl rfl trivial ?_
  refine vo_nil ?_
  refine hK5 _ ?_
  refine vc_cond rfl (fun hc1 => ?_) (fun hc1 => ?_)
  · try simp only [decide_eq_true_eq, decide_eq_false_iff_not, beq_iff_eq, bne_iff_ne, beq_eq_false_iff_ne, bne_eq_false_iff_eq, Bool.not_eq_true, Bool.not_eq_false, Bool.not_eq_eq_eq_not, Bool.not_true, Bool.not_false, List.length_map, Int.not_lt, Int.not_le, ne_eq, Decidable.not_not] at hc1
    refine vc_seq fun K6 hK6 => ?_
    refine vc_region ?_
    refine vo_assign_pv rfl rfl ?_
    refine vo_nil ?_
    refine hK6 _ ?_
    refine vc_ret ?_
    change retQ _ _ _ _ _
    refine retQ_sel [] (srows := []) (.inr rfl) hC rfl rfl rfl rfl rfl rfl rfl ?_
    exact ⟨rfl, rfl⟩
  · try simp only [decide_eq_true_eq, decide_eq_false_iff_not, beq_iff_eq, bne_iff_ne, beq_eq_false_iff_ne, bne_eq_false_iff_eq, Bool.not_eq_true, Bool.not_eq_false, Bool.not_eq_eq_eq_not, Bool.not_true, Bool.not_false, List.length_map, Int.not_lt, Int.not_le, ne_eq, Decidable.not_not] at hc1
    rcases hv with hv | hv
    · omega
    have hs := hv.2.2
    refine vc_skip ?_
    refine hK4 _ ?_
    refine vc_seq fun K7 hK7 => ?_
    refine vc_region ?_
    refine vo_load_varS rfl rfl rfl Try.underlying57 rfl inf57 sz57 rfl rfl ?_
    refine vo_call0 Try.func37 rfl rfl rfl rfl (toWorld_sat hs) ?_
    rintro _ _ ⟨rfl, rfl⟩
    refine ⟨rfl, rfl, .inl rfl, ?_⟩
    refine vo_stM ?_
    refine vo_move_pv rfl rfl ?_
    refine vo_move_pv rfl rfl ?_
    refine vo_call0 Try.func36 rfl rfl rfl rfl (specGetAttr_sat hs) ?_
    rintro _ _ ⟨rfl, rfl⟩
    refine ⟨rfl, rfl, .inl rfl, ?_⟩
    refine vo_stM ?_
    refine vo_alloc Z60 rfl ?_
    refine vo_stM ?_
    refine vo_store_varS rfl rfl rfl inf60 sz60 rfl ?_
    refine vo_stM ?_
    refine vo_nil ?_
    refine hK7 _ ?_
    refine vc_seq fun K8 hK8 => ?_
    refine vc_region ?_
    refine vo_load_varS rfl rfl rfl Try.underlying57 rfl inf57 sz57 rfl rfl ?_
    refine vo_call0 Try.func37 rfl rfl rfl rfl (toWorld_sat hs) ?_
    rintro _ _ ⟨rfl, rfl⟩
    refine ⟨rfl, rfl, .inl rfl, ?_⟩
    refine vo_stM ?_
    refine vo_alloc Z65 rfl ?_
    refine vo_stM ?_
    refine vo_store_varS rfl rfl rfl inf65 sz65 rfl ?_
    refine vo_stM ?_
    refine vo_nil ?_
    refine hK8 _ ?_
    refine vc_seq fun K9 hK9 => ?_
    refine vc_region ?_
    refine vo_load_varS rfl rfl rfl Try.underlying65 rfl inf65 sz65 rfl rfl ?_
    refine vo_move_pv rfl rfl ?_
    refine vo_move_pv rfl rfl ?_
    refine vo_call0 Try.func38 rfl rfl rfl rfl (implGetAttr_sat hs) ?_
    rintro _ _ ⟨rfl, rfl⟩
    refine ⟨rfl, rfl, .inl rfl, ?_⟩
    refine vo_stM ?_
    refine vo_alloc Z60 rfl ?_
    refine vo_stM ?_
    refine vo_store_varS rfl rfl rfl inf60 sz60 rfl ?_
    refine vo_stM ?_
    refine vo_nil ?_
    refine hK9 _ ?_
    refine vc_seq fun K10 hK10 => ?_
    refine vc_seq fun K11 hK11 => ?_
    refine vc_region ?_
    refine vo_load_varS rfl rfl rfl Try.underlying60 rfl inf60 sz60 rfl rfl ?_
    refine vo_load_varS rfl rfl rfl Try.underlying60 rfl inf60 sz60 rfl rfl ?_
    refine vo_call0 Try.func39 rfl rfl rfl rfl eqFound_sat ?_
    rintro _ _ ⟨rfl, rfl⟩
    refine ⟨rfl, rfl, .inl rfl, ?_⟩
    refine vo_stM ?_
    refine vo_not rfl rfl ?_
    refine vo_nil ?_
    refine hK11 _ ?_
    refine vc_cond rfl (fun hc2 => ?_) (fun hc2 => ?_)
    · try simp only [decide_eq_true_eq, decide_eq_false_iff_not, beq_iff_eq, bne_iff_ne, beq_eq_false_iff_ne, bne_eq_false_iff_eq, Bool.not_eq_true, Bool.not_eq_false, Bool.not_eq_eq_eq_not, Bool.not_true, Bool.not_false, List.length_map, Int.not_lt, Int.not_le, ne_eq, Decidable.not_not] at hc2
      refine vc_seq fun K12 hK12 => ?_
      refine vc_region ?_
      refine vo_assign_pv rfl rfl ?_
      refine vo_nil ?_
      refine hK12 _ ?_
      refine vc_ret ?_
      change retQ _ _ _ _ _
      refine retQ_sel [] (srows := []) (.inr rfl) hC rfl rfl rfl rfl rfl rfl rfl ?_
      first | exact ⟨rfl, rfl⟩ | (exfalso; simp_all; done)
    · try simp only [decide_eq_true_eq, decide_eq_false_iff_not, beq_iff_eq, bne_iff_ne, beq_eq_false_iff_ne, bne_eq_false_iff_eq, Bool.not_eq_true, Bool.not_eq_false, Bool.not_eq_eq_eq_not, Bool.not_true, Bool.not_false, List.length_map, Int.not_lt, Int.not_le, ne_eq, Decidable.not_not] at hc2
      refine vc_skip ?_
      refine hK10 _ ?_
      refine vc_seq fun K13 hK13 => ?_
      refine vc_seq fun K14 hK14 => ?_
      refine vc_draw (by kernel_rfl) ?_
      change VD _ _ _ 5 _ _ _
      refine vd_light 0 rfl rfl rfl (by kernel_rfl) (by kernel_rfl) (by kernel_rfl) (wnt_none rfl) (lt_load_varS rfl rfl Try.underlying65 rfl inf65 sz65 rfl rfl) ?_
      refine vd_light 1 rfl rfl rfl (by kernel_rfl) (by kernel_rfl) (by kernel_rfl) (wnt_none rfl) (lt_load_varS rfl rfl Try.underlying57 rfl inf57 sz57 rfl rfl) ?_
      refine vd_call 2 rfl (by kernel_rfl) (wnt_none rfl) Try.func37 rfl rfl rfl rfl (toWorld_sat hs) ?_
      rintro _ _ ⟨rfl, rfl⟩
      refine ⟨rfl, rfl, .inl rfl, ?_⟩
      refine vd_stM ?_
      refine vd_call 3 rfl (by kernel_rfl) (wnt_none rfl) Try.func40 rfl rfl rfl rfl (eqWorld_sat hs hs) ?_
      rintro _ _ ⟨rfl, rfl⟩
      refine ⟨rfl, rfl, .inl rfl, ?_⟩
      refine vd_stM ?_
      refine vd_light 4 rfl rfl rfl (by kernel_rfl) (by kernel_rfl) (by kernel_rfl) (wnt_none rfl) (lt_not rfl) ?_
      refine vd_nil (by kernel_rfl) ?_
      refine hK14 _ ?_
      refine vc_cond rfl (fun hc3 => ?_) (fun hc3 => ?_)
      · try simp only [decide_eq_true_eq, decide_eq_false_iff_not, beq_iff_eq, bne_iff_ne, beq_eq_false_iff_ne, bne_eq_false_iff_eq, Bool.not_eq_true, Bool.not_eq_false, Bool.not_eq_eq_eq_not, Bool.not_true, Bool.not_false, List.length_map, Int.not_lt, Int.not_le, ne_eq, Decidable.not_not] at hc3
        refine vc_seq fun K15 hK15 => ?_
        refine vc_region ?_
        refine vo_assign_pv rfl rfl ?_
        refine vo_nil ?_
        refine hK15 _ ?_
        refine vc_ret ?_
        change retQ _ _ _ _ _
        refine retQ_sel [] (srows := []) (.inr rfl) hC rfl rfl rfl rfl rfl rfl rfl ?_
        first | exact ⟨rfl, rfl⟩ | (exfalso; simp_all; done)
      · try simp only [decide_eq_true_eq, decide_eq_false_iff_not, beq_iff_eq, bne_iff_ne, beq_eq_false_iff_ne, bne_eq_false_iff_eq, Bool.not_eq_true, Bool.not_eq_false, Bool.not_eq_eq_eq_not, Bool.not_true, Bool.not_false, List.length_map, Int.not_lt, Int.not_le, ne_eq, Decidable.not_not] at hc3
        refine vc_skip ?_
        refine hK13 _ ?_
        refine vc_seq fun K16 hK16 => ?_
        refine vc_region ?_
        refine vo_assign_pv rfl rfl ?_
        refine vo_nil ?_
        refine hK16 _ ?_
        refine vc_ret ?_
        change retQ _ _ _ _ _
        refine retQ_sel [] (srows := []) (.inr rfl) hC rfl rfl rfl rfl rfl rfl rfl ?_
        first | exact ⟨rfl, rfl⟩ | (exfalso; simp_all; done)


end Go.Vl
