/- Part 6 of the texts that the proof of FnAbstractOf is built on. -/
import Derived.Test.YtlpchicpbnmdgaaVl5
/- Calls by any operation that enters a function: by name, through an interface, of a value. -/
namespace Go.Vl
set_option linter.unusedVariables false
set_option linter.unusedSimpArgs false
open Go.RowKit
section
variable {P : Program} {C : Ctx} {Q : Go.Exit → St → Prop} {s : St}

/-- An operation that enters a function, by what that hands back; 'bs' are the rows that it may write. -/
theorem ow_callA {op : Op} {t : Nat} {ty : TypeId} {pos : String} {af : Array Edge} {gd : Option (Nat × Bool)} {f : FuncId} {va : Array Value} {sa : List SV} {args : List SV} {R : List SV → List Row → Prop} (bs : List Nat)
    {brows : List Row} {m : Nat → MV} {a : Act} {w : World} {K : Act → World → Prop} {Q' : Go.Exit → Act → World → Prop} (hs : SimM C s m a w)
    (hrun : (execOp a.eval ⟨some t, op, ty, pos, af, gd⟩).run P w = .ok (.enter f va) w) (hva : va.size = sa.length)
    (hvs : ∀ (u : Nat) (x : SV), sa[u]? = some x → RS w (Gd C s.rows m w) m s.rows.length x (va.getD u undef)) (ht : Nat.blt t s.n = true)
    (hb1 : bs.map (fun id => (s.rows[id]?).map Row.toArg) = brows.map some) (hb2 : brows.all Row.live = true) (hb3 : bs.map (placeOf bs) = (List.range bs.length).map some)
    (hargs : sa.mapM (argOfB bs s.rows) = some args) (hsat : SatAt P f args brows R)
    (next : ∀ res rows', R res rows' → bs.length ≤ rows'.length ∧ (res.all SV.noTup = true ∧ rows'.all (Row.bdd 0) = true ∧ (rows'.take bs.length).all Row.live = true ∧ rows'.all Row.noGh = true) ∧
      ((sa.any (SV.isKept bs) = false) ∨ (res.all SV.fresh = true ∧ rows'.all Row.fresh = true)) ∧
      ∀ m' a' w', SimM C ⟨s.n, (t, packS (res.map (SV.shift bs s.rows.length))) :: s.env, rowsAfter bs s.rows rows'⟩ m' a' w' → w.heap.size ≤ w'.heap.size →
        (∀ k, k < w.heap.size → (∀ (q id : Nat), bs[q]? = some id → ¬ (m id).S k) → w'.heap[k]? = w.heap[k]?) → K a' w') :
    Oper.wp P ⟨some t, op, ty, pos, af, gd⟩ a w K Q' := by
  unfold Oper.wp
  rw [hrun, Oper.upon_enter]
  have hbrow : ∀ (q id : Nat), bs[q]? = some id → ∃ r, s.rows[id]? = some r ∧ brows[q]? = some r.toArg ∧ r.live = true := by
    intro q id hq
    have h1 : (bs.map (fun id => (s.rows[id]?).map Row.toArg))[q]? = (brows.map some)[q]? := by rw [hb1]
    simp only [List.getElem?_map, hq, Option.map_some] at h1
    cases hr : s.rows[id]? with
    | none =>
      rw [hr] at h1
      cases hq2 : brows[q]? with
      | none => rw [hq2] at h1; simp at h1
      | some r2 => rw [hq2] at h1; simp at h1
    | some r =>
      rw [hr] at h1
      simp only [Option.map_some] at h1
      cases hq2 : brows[q]? with
      | none => rw [hq2] at h1; simp at h1
      | some r2 =>
        rw [hq2] at h1
        simp at h1
        subst h1
        refine ⟨r, rfl, rfl, ?_⟩
        rw [List.all_eq_true] at hb2
        exact toArg_live _ (hb2 _ (List.mem_of_getElem? hq2))
  have hblen : brows.length = bs.length := by
    have := congrArg List.length hb1
    simpa using this.symm
  have hblive : ∀ (q id : Nat), bs[q]? = some id → liveAt s.rows id := fun q id hq => let ⟨r, h1, _, h3⟩ := hbrow q id hq; ⟨r, h1, h3⟩
  have hplace : ∀ (q id : Nat), bs[q]? = some id → placeOf bs id = some q := by
    intro q id hq
    have h1 : (bs.map (placeOf bs))[q]? = ((List.range bs.length).map some)[q]? := by rw [hb3]
    have hlt : q < bs.length := (List.getElem?_eq_some_iff.1 hq).1
    simp only [List.getElem?_map, hq, Option.map_some, List.getElem?_range hlt, Option.some.injEq] at h1
    exact h1
  let kept : Prop := sa.any (SV.isKept bs) = true
  let bm : Nat → MV := fun q => m ((bs[q]?).getD 0)
  let tk : Nat → Prop := fun b => ∃ (q id : Nat), bs[q]? = some id ∧ (m id).S b
  let C' : Ctx := ⟨w, fun b => Gd C s.rows m w false b ∨ (kept ∧ b < w.heap.size ∧ ¬ tk b), bs.length, bm⟩
  have hlen : args.length = va.size := by rw [mapM_len hargs, hva]
  have htk : ∀ b, tk b → priv s.rows m b := fun b ⟨q, id, h1, h2⟩ => ⟨id, hblive q id h1, h2⟩
  have hbpriv : ∀ b, priv brows bm b → tk b := by
    rintro b ⟨q, ⟨r, hr, hl⟩, hbk⟩
    have hq : q < bs.length := by rw [← hblen]; exact (List.getElem?_eq_some_iff.1 hr).1
    have hq2 : bs[q]? = some bs[q] := List.getElem?_eq_getElem hq
    exact ⟨q, _, hq2, by simpa [bm, hq2] using hbk⟩
  have hkey : ∀ fr b, Gd C s.rows m w fr b → Gd C' brows bm w false b := fun fr b hb =>
    ⟨hb.1, fun hp => hb.2.1 (htk b (hbpriv b hp)), fun _ => .inl (.inl hb.weak), fun e => by cases e⟩
  have hs0 : SimM C' ⟨va.size, enumE 0 args, brows⟩ bm ⟨va, []⟩ C'.w0 := {
    defs := rfl
    size := rfl
    os := rfl
    tape := rfl
    output := rfl
    hsz := Nat.le_refl _
    old := fun _ _ _ => rfl
    bor := fun _ _ => rfl
    nbl := by show bs.length ≤ brows.length; omega
    newb := fun id b hge hl _ => by
      obtain ⟨r, hr, _⟩ := hl
      have h1 : id < brows.length := (List.getElem?_eq_some_iff.1 hr).1
      change bs.length ≤ id at hge
      omega
    dist := fun i j b hi hj hbi hbj => by
      obtain ⟨r, hr, _⟩ := hi
      obtain ⟨r2, hr2, _⟩ := hj
      have hi1 : i < bs.length := by rw [← hblen]; exact (List.getElem?_eq_some_iff.1 hr).1
      have hj1 : j < bs.length := by rw [← hblen]; exact (List.getElem?_eq_some_iff.1 hr2).1
      have hi2 : bs[i]? = some bs[i] := List.getElem?_eq_getElem hi1
      have hj2 : bs[j]? = some bs[j] := List.getElem?_eq_getElem hj1
      simp only [bm, hi2, hj2, Option.getD_some] at hbi hbj
      have := hs.dist _ _ b (hblive i _ hi2) (hblive j _ hj2) hbi hbj
      have p1 := hplace i _ hi2
      have p2 := hplace j _ hj2
      rw [this, p2] at p1
      cases p1
      rfl
    rows := fun q r hr => by
      have hq : q < bs.length := by rw [← hblen]; exact (List.getElem?_eq_some_iff.1 hr).1
      have hq2 : bs[q]? = some bs[q] := List.getElem?_eq_getElem hq
      obtain ⟨r0, h1, h2, h3⟩ := hbrow q _ hq2
      change brows[q]? = some r at hr
      rw [hr] at h2
      cases h2
      have : bm q = m bs[q] := by simp [bm, hq2]
      rw [this]
      exact toArg_ok hkey (hs.rows _ _ h1)
    env := fun u => by
      show RS w _ _ _ (look (enumE 0 args) u) _
      rw [look_enumE]
      simp only [Nat.zero_le, if_true, Nat.sub_zero]
      rcases Nat.lt_or_ge u va.size with hu | hu
      · have hx : sa[u]? = some (sa[u]'(by omega)) := List.getElem?_eq_getElem (by omega)
        obtain ⟨y, hy, hg⟩ := mapM_get hargs u _ hx
        rw [hy]
        simp only [Option.getD_some]
        show RS w _ _ _ y (va.getD u undef)
        have hv := hvs u _ hx
        generalize hgx : sa[u]'(by omega) = gx at *
        generalize va.getD u undef = v at *
        cases hv with
        | pv fr p v hp =>
          simp only [argOfB, Option.some.injEq] at hg
          subst hg
          cases hsc : p.scal with
          | true => exact .pv _ _ _ (hp.scal_any hsc)
          | false => exact .pv _ _ _ (hp.mono fun b hb => ⟨hkey fr b hb, rfl⟩)
        | ref id hid =>
          simp only [argOfB] at hg
          split at hg
          · rename_i q hq
            simp at hg
            subst hg
            have hq2 := placeOf_some hq
            have : m id = bm q := by simp [bm, hq2]
            rw [this]
            exact .ref q (by show q < brows.length; rw [hblen]; exact (List.getElem?_eq_some_iff.1 hq2).1)
          · rename_i hq
            split at hg
            · rename_i t' e nl fr ys hrow
              simp at hg
              subst hg
              refine .pv _ _ _ (RP.of_row (hs.rows id _ hrow) (fun b hb => hkey _ b hb) (fun b hb => ?_))
              have hlt := hs.lt ⟨_, hrow, rfl⟩ hb
              have hk : kept := by
                show sa.any (SV.isKept bs) = true
                rw [List.any_eq_true]
                exact ⟨.ref id, List.mem_of_getElem? hx, by simp [SV.isKept, hq]⟩
              have hnt : ¬ tk b := by
                rintro ⟨q, id', h1, h2⟩
                have := hs.dist id id' b ⟨_, hrow, rfl⟩ (hblive q id' h1) hb h2
                subst this
                exact placeOf_none hq (List.mem_of_getElem? h1)
              exact ⟨hlt, fun hp => hnt (hbpriv b hp), fun _ => .inl (.inr ⟨hk, hlt, hnt⟩), fun e => by cases e⟩
            · rename_i t' e nl ys hrow
              simp at hg
              subst hg
              refine .pv _ _ _ (RP.of_tree (hs.rows id _ hrow) (fun b hb => ?_))
              have hlt := hs.lt ⟨_, hrow, rfl⟩ hb
              have hk : kept := by
                show sa.any (SV.isKept bs) = true
                rw [List.any_eq_true]
                exact ⟨.ref id, List.mem_of_getElem? hx, by simp [SV.isKept, hq]⟩
              have hnt : ¬ tk b := by
                rintro ⟨q, id', h1, h2⟩
                have := hs.dist id id' b ⟨_, hrow, rfl⟩ (hblive q id' h1) hb h2
                subst this
                exact placeOf_none hq (List.mem_of_getElem? h1)
              exact ⟨hlt, fun hp => hnt (hbpriv b hp), fun _ => .inl (.inr ⟨hk, hlt, hnt⟩), fun e => by cases e⟩
            · simp at hg
        | ptr id e i o b hid hbk =>
          simp only [argOfB] at hg
          split at hg
          · rename_i q hq
            simp at hg
            subst hg
            have hq2 := placeOf_some hq
            have : m id = bm q := by simp [bm, hq2]
            exact .ptr q e i o b (by show q < brows.length; rw [hblen]; exact (List.getElem?_eq_some_iff.1 hq2).1) (by rw [← this]; exact hbk)
          · simp at hg
        | ag vs us hl9 h9 h1 =>
          simp only [argOfB] at hg
          split at hg
          · rename_i ps hps
            simp at hg
            subst hg
            obtain ⟨g1, g2⟩ := argCells_get hps
            have hkey2 : ∀ (j : Nat) (p : PV) (u : Value), ps[j]? = some p → us[j]? = some u → RP w (Gd C' brows bm w false) p u ∧ p.isAgg = false := by
              intro j p u hp hu
              obtain ⟨c, hc, hcp⟩ := g2 j p hp
              refine argCell_ok hs (h9 j c u hc hu) hcp (h1 j u hu) (fun fr b hb => hkey fr b hb) (fun id b e hq hlv hb => ?_)
              subst e
              have hlt := hs.lt hlv hb
              have hk : kept := by
                show sa.any (SV.isKept bs) = true
                rw [List.any_eq_true]
                refine ⟨.ag vs, List.mem_of_getElem? hx, ?_⟩
                show vs.any (SV.isKept1 bs) = true
                rw [List.any_eq_true]
                exact ⟨.ref id, List.mem_of_getElem? hc, by simp [SV.isKept1, hq]⟩
              have hnt : ¬ tk b := by
                rintro ⟨q, id', h1, h2⟩
                have := hs.dist id id' b hlv (hblive q id' h1) hb h2
                subst this
                exact placeOf_none hq (List.mem_of_getElem? h1)
              exact ⟨hlt, fun hp => hnt (hbpriv b hp), fun _ => .inl (.inr ⟨hk, hlt, hnt⟩), fun e => by cases e⟩
            have hul : us.size = ps.length := by rw [hl9, g1]
            refine .pv _ _ _ (.agg ps us hul (fun j c hc => ?_) (fun j c u hc hu => (hkey2 j c u hc hu).1))
            have hj : j < us.size := by rw [hul]; exact (List.getElem?_eq_some_iff.1 hc).1
            exact (hkey2 j c _ hc (Array.getElem?_eq_getElem hj)).2
          · cases hg
        | _ => simp [argOfB] at hg
      · rw [List.getElem?_eq_none (by omega)]
        exact .any _ }
  refine (hsat C' bm va hblen.symm (fun b hb => hb.elim (fun h => h.1) (fun h => h.2.1)) (by simp [hlen]) hs0).mono ?_
  rintro e w' ⟨us, res, rows', m2, rfl, hus, hs', hR⟩
  obtain ⟨hbl, ⟨hnt, hbdd, hlv, hng⟩, hfr, hnx⟩ := next res rows' hR
  have hsz : w.heap.size ≤ w'.heap.size := hs'.hsz
  have hold : ∀ k, k < w.heap.size → ¬ tk k → w'.heap[k]? = w.heap[k]? := fun k hk hn => hs'.old k hk (fun q hq hbk => by
    have hq2 : bs[q]? = some bs[q] := List.getElem?_eq_getElem hq
    exact hn ⟨q, _, hq2, by simpa [C', bm, hq2] using hbk⟩)
  let N := s.rows.length
  let m3 : Nat → MV := fun j => if j < N then m j else m2 (j - N + bs.length)
  let nr := rowsAfter bs s.rows rows'
  have hm3 : ∀ j, j < N → m3 j = m j := fun j hj => by simp [m3, hj]
  have hm2b : ∀ (q id : Nat), bs[q]? = some id → m2 q = m id := by
    intro q id hq
    have := hs'.bor q (List.getElem?_eq_some_iff.1 hq).1
    rw [this]
    show bm q = m id
    simp [bm, hq]
  have hnrlen : nr.length = N + (rows'.length - bs.length) := by simp [nr, rowsAfter, N]
  have hnr1 : ∀ j, j < N → ∃ r0, s.rows[j]? = some r0 ∧ ((∃ q : Nat, bs[q]? = some j ∧ ∃ r', rows'[q]? = some r' ∧ nr[j]? = some r') ∨ (j ∉ bs ∧ nr[j]? = some r0)) := by
    intro j hj
    have h0 : s.rows[j]? = some s.rows[j] := List.getElem?_eq_getElem hj
    refine ⟨_, h0, ?_⟩
    have h1 : nr[j]? = some (match placeOf bs j with | some q => (rows'[q]?).getD .dead | none => s.rows[j]) := by
      simp only [nr, rowsAfter]
      rw [List.getElem?_append_left (by simp; exact hj)]
      simp [List.getElem?_mapIdx, h0]
      try (cases placeOf bs j <;> rfl)
    cases hp : placeOf bs j with
    | none => right; rw [hp] at h1; exact ⟨placeOf_none hp, h1⟩
    | some q =>
      left
      rw [hp] at h1
      have hq := placeOf_some hp
      have hq1 : q < rows'.length := Nat.lt_of_lt_of_le (List.getElem?_eq_some_iff.1 hq).1 hbl
      have hq2 : rows'[q]? = some rows'[q] := List.getElem?_eq_getElem hq1
      refine ⟨q, hq, _, hq2, ?_⟩
      rw [h1]
      show some ((rows'[q]?).getD Row.dead) = _
      rw [hq2]
      rfl
  have hnr2 : ∀ j, N ≤ j → nr[j]? = rows'[j - N + bs.length]? := by
    intro j hj
    simp only [nr, rowsAfter]
    rw [List.getElem?_append_right (by simp; exact hj)]
    simp only [List.length_mapIdx, List.getElem?_drop]
    congr 1
    omega
  have hnlive : ∀ j, j < N → liveAt nr j → liveAt s.rows j := by
    intro j hj ⟨r, hr, hl⟩
    obtain ⟨r0, h0, h | h⟩ := hnr1 j hj
    · obtain ⟨q, hq, _⟩ := h
      exact hblive q j hq
    · rw [h.2] at hr
      cases hr
      exact ⟨r, h0, hl⟩
  have hnew : ∀ j b, N ≤ j → liveAt nr j → (m3 j).S b → liveAt rows' (j - N + bs.length) ∧ (m2 (j - N + bs.length)).S b ∧ w.heap.size ≤ b := by
    intro j b hj ⟨r, hr, hl⟩ hbk
    rw [hnr2 j hj] at hr
    have e1 : m3 j = m2 (j - N + bs.length) := by simp [m3, Nat.not_lt.2 hj]
    rw [e1] at hbk
    exact ⟨⟨r, hr, hl⟩, hbk, hs'.newb _ b (by show bs.length ≤ _; omega) ⟨r, hr, hl⟩ hbk⟩
  have hG : ∀ f b, Gd C s.rows m w f b → Gd C nr m3 w' f b ∧ w'.heap[b]? = w.heap[b]? := by
    refine Gd.step tk hsz hold htk (fun b hlt ⟨j, hl, hbk⟩ => ?_)
    rcases Nat.lt_or_ge j N with hj | hj
    · rw [hm3 j hj] at hbk
      exact ⟨j, hnlive j hj hl, hbk⟩
    · have := (hnew j b hj hl hbk).2.2
      omega
  have hG2 : ∀ fl b, (fl = true ∨ ¬ kept) → Gd C' rows' m2 w' fl b → Gd C nr m3 w' fl b := by
    intro fl b hk hb
    have hnp : ¬ priv nr m3 b := by
      rintro ⟨j, hl, hbk⟩
      rcases Nat.lt_or_ge j N with hj | hj
      · obtain ⟨r0, h0, h | h⟩ := hnr1 j hj
        · obtain ⟨q, hq, r', hr', hn⟩ := h
          rw [hm3 j hj, ← hm2b q j hq] at hbk
          refine hb.2.1 ⟨q, ⟨r', hr', ?_⟩, hbk⟩
          rw [List.all_eq_true] at hlv
          refine hlv r' (List.mem_of_getElem? (i := q) ?_)
          rw [List.getElem?_take, if_pos (List.getElem?_eq_some_iff.1 hq).1]
          exact hr'
        · rw [hm3 j hj] at hbk
          have hpl : priv s.rows m b := ⟨j, hnlive j hj hl, hbk⟩
          have hlt := hs.lt (hnlive j hj hl) hbk
          cases fl with
          | true => have := (hb.2.2.2 rfl).1; change w.heap.size ≤ b at this; omega
          | false =>
            rcases hb.2.2.1 rfl with hA | hA
            · rcases hA with hA | hA
              · exact hA.2.1 hpl
              · rcases hk with hk | hk
                · cases hk
                · exact hk hA.1
            · change w.heap.size ≤ b at hA; omega
      · obtain ⟨h1, h2, _⟩ := hnew j b hj hl hbk
        exact hb.2.1 ⟨_, h1, h2⟩
    refine ⟨hb.1, hnp, fun e => ?_, fun e => ?_⟩
    · rcases hb.2.2.1 e with hA | hA
      · rcases hA with hA | hA
        · exact hA.2.2.1 rfl
        · rcases hk with hk | hk
          · rw [hk] at e; cases e
          · exact (hk hA.1).elim
      · exact .inr (Nat.le_trans hs.hsz hA)
    · have h4 := hb.2.2.2 e
      exact ⟨Nat.le_trans hs.hsz h4.1, h4.2⟩
  have hrowC : ∀ (q : Nat) (r : Row), rows'[q]? = some r → RowOK w' (Gd C nr m3 w') m3 nr.length (m2 q) r := by
    intro q r hr
    have h0 := hs'.rows q r hr
    have hfq : kept → r.fresh = true := by
      intro hk
      rcases hfr with h | h
      · have hk' : sa.any (SV.isKept bs) = true := hk
        rw [h] at hk'; cases hk'
      · have := h.2
        rw [List.all_eq_true] at this
        exact this r (List.mem_of_getElem? hr)
    have hbq : r.bdd 0 = true := by rw [List.all_eq_true] at hbdd; exact hbdd r (List.mem_of_getElem? hr)
    have hgq : r.noGh = true := by rw [List.all_eq_true] at hng; exact hng r (List.mem_of_getElem? hr)
    have hor : ∀ fl : Bool, (kept → fl = true) → (fl = true ∨ ¬ kept) := fun fl h => by
      by_cases hk : kept
      · exact .inl (h hk)
      · exact .inr hk
    change RowOK w' (Gd C' rows' m2 w') m2 rows'.length (m2 q) r at h0
    generalize m2 q = v at *
    cases h0 with
    | dead v => exact .dead v
    | own v t e nl fr xs vs hown h1 h2 hw hr' =>
      refine .own v t e nl fr xs vs hown h1 h2 hw (fun i x j c hx hc => ?_)
      obtain ⟨u, hu, hp⟩ := hr' i x j c hx hc
      exact ⟨u, hu, hp.mono fun b hb => ⟨hG2 fr b (hor fr hfq) hb, rfl⟩⟩
    | tree mv t e nl h xs vals Sf hown h1 h2 hw hr9 hd hn hz hS hkn => exact .tree _ t e nl h xs vals Sf hown h1 h2 hw hr9 hd hn hz hS hkn
    | mp b g es clock hbk hm' => exact .mp b g es clock hbk hm'
    | gh mv us cs hl h9 => cases hgq
    | var b t cs cur hb hl hr' h1 =>
      refine .var b t cs cur hb hl (fun j c u hc hu => ?_) h1
      have hv := hr' j c u hc hu
      have hcb : c.bdd 0 = true := by
        simp only [Row.bdd, List.all_eq_true] at hbq
        exact hbq c (List.mem_of_getElem? hc)
      have hcf : kept → c.fresh = true := by
        intro hk
        have := hfq hk
        simp only [Row.fresh, List.all_eq_true] at this
        exact this c (List.mem_of_getElem? hc)
      cases hv with
      | any v => exact .any _
      | val u => exact .val _
      | und => exact .und
      | pv fr p v hp =>
        cases hsc : p.scal with
        | true => exact .pv _ _ _ (hp.scal_any hsc)
        | false => exact .pv _ _ _ (hp.mono fun b hb => ⟨hG2 fr b (hor fr fun hk => by have := hcf hk; simpa [SV.fresh, hsc] using this) hb, rfl⟩)
      | ref i hi => simp [SV.bdd] at hcb
      | ptr i e' k o b' hi hbk => simp [SV.bdd] at hcb
      | adr fr cs' a' f' hsp hg h1' hc' hr2 =>
        by_cases hk : kept
        · have := hcf hk; simp [SV.fresh] at this
        · exact .adr fr cs' a' f' hsp (fun hne => hG2 fr _ (.inr hk) (hg hne)) h1' hc' (fun j c hj => (hr2 j c hj).mono fun b hb => ⟨hG2 fr b (.inr hk) hb, rfl⟩)
      | tup vs us' hl' h' => simp [SV.bdd] at hcb
      | sub i e' l h c' _ hid hs9 => simp [SV.bdd] at hcb
      | clo f ids us9 hl9 h9 => 
          have e9 : ids = [] := by
            cases ids with
            | nil => rfl
            | cons i ids => simp [SV.bdd] at hcb
          subst e9
          exact .clo f [] us9 hl9 (fun j i u h1 h2 => by simp at h1)
      | ag vs us' hl' h' h1' =>
        refine .ag vs us' hl' (fun q c u hc hu => ?_) h1'
        have hcb1 : c.bdd1 0 = true := by simp only [SV.bdd, List.all_eq_true] at hcb; exact hcb c (List.mem_of_getElem? hc)
        have hcf1 : kept → c.fresh1 = true := fun hk => by have := hcf hk; simp only [SV.fresh, List.all_eq_true] at this; exact this c (List.mem_of_getElem? hc)
        have hv := h' q c u hc hu
        cases hv with
        | any v => exact .any _
        | val u => exact .val _
        | und => exact .und
        | pv fr p v hp =>
          cases hsc : p.scal with
          | true => exact .pv _ _ _ (hp.scal_any hsc)
          | false => exact .pv _ _ _ (hp.mono fun b hb => ⟨hG2 fr b (hor fr fun hk => by have := hcf1 hk; simpa [SV.fresh1, hsc] using this) hb, rfl⟩)
        | ref i hi => simp [SV.bdd1] at hcb1
        | ptr i e' k o b' hi hbk => simp [SV.bdd1] at hcb1
        | adr fr cs' a' f' hsp hg h1' hc' hr2 =>
          by_cases hk : kept
          · have := hcf1 hk; simp [SV.fresh1] at this
          · exact .adr fr cs' a' f' hsp (fun hne => hG2 fr _ (.inr hk) (hg hne)) h1' hc' (fun j c hj => (hr2 j c hj).mono fun b hb => ⟨hG2 fr b (.inr hk) hb, rfl⟩)
        | tup vs us' hl' h' => simp [SV.bdd1] at hcb1
        | ag vs us' hl' h' h1' => simp [SV.bdd1] at hcb1
        | sub i e' l h c' _ hid hs9 => simp [SV.bdd1] at hcb1
        | clo f ids us9 hl9 h9 => 
          have e9 : ids = [] := by
            cases ids with
            | nil => rfl
            | cons i ids => simp [SV.bdd1] at hcb1
          subst e9
          exact .clo f [] us9 hl9 (fun j i u h1 h2 => by simp at h1)
  have hs2 : SimM C ⟨s.n, s.env, nr⟩ m3 a w' := {
    defs := hs.defs
    size := hs.size
    os := hs'.os.trans hs.os
    tape := hs'.tape.trans hs.tape
    output := hs'.output.trans hs.output
    hsz := Nat.le_trans hs.hsz hsz
    old := fun k hk hn => by
      refine (hold k (by have := hs.hsz; omega) ?_).trans (hs.old k hk hn)
      rintro ⟨q, id, h1, h2⟩
      by_cases hid : id < C.nb
      · exact hn id hid (by rw [← hs.bor id hid]; exact h2)
      · have := hs.newb id k (by omega) (hblive q id h1) h2; omega
    bor := fun id hid => by rw [hm3 id (by have := hs.nbl; show id < N; omega)]; exact hs.bor id hid
    nbl := by have := hs.nbl; show C.nb ≤ nr.length; rw [hnrlen]; show C.nb ≤ s.rows.length + _; omega
    newb := fun j b hj hl hbk => by
      rcases Nat.lt_or_ge j N with h | h
      · rw [hm3 j h] at hbk; exact hs.newb j b hj (hnlive j h hl) hbk
      · have := (hnew j b h hl hbk).2.2; have := hs.hsz; omega
    dist := fun i j b hi hj hbi hbj => by
      rcases Nat.lt_or_ge i N with h1 | h1 <;> rcases Nat.lt_or_ge j N with h2 | h2
      · rw [hm3 i h1] at hbi; rw [hm3 j h2] at hbj
        exact hs.dist i j b (hnlive i h1 hi) (hnlive j h2 hj) hbi hbj
      · rw [hm3 i h1] at hbi
        have e1 := hs.lt (hnlive i h1 hi) hbi
        have e2 := (hnew j b h2 hj hbj).2.2
        omega
      · rw [hm3 j h2] at hbj
        have e1 := hs.lt (hnlive j h2 hj) hbj
        have e2 := (hnew i b h1 hi hbi).2.2
        omega
      · obtain ⟨l1, b1, _⟩ := hnew i b h1 hi hbi
        obtain ⟨l2, b2, _⟩ := hnew j b h2 hj hbj
        have := hs'.dist _ _ b l1 l2 b1 b2
        omega
    rows := fun j r hr => by
      change nr[j]? = some r at hr
      show RowOK w' (Gd C nr m3 w') m3 nr.length (m3 j) r
      rcases Nat.lt_or_ge j N with h | h
      · rw [hm3 j h]
        obtain ⟨r0, h0, hh | hh⟩ := hnr1 j h
        · obtain ⟨q, hq, r', hr', hn⟩ := hh
          rw [hn] at hr
          cases hr
          rw [← hm2b q j hq]
          exact hrowC q r hr'
        · rw [hh.2] at hr
          cases hr
          refine RowOK.mono hG (by rw [hnrlen]; exact Nat.le_add_right _ _) (fun id hid => hm3 id hid) (hs.rows j r h0) (fun hl b hb => hold b (hs.lt ⟨r, h0, hl⟩ hb) ?_)
          rintro ⟨q, id, h1, h2⟩
          have := hs.dist j id b ⟨r, h0, hl⟩ (hblive q id h1) hb h2
          subst this
          exact hh.1 (List.mem_of_getElem? h1)
      · rw [hnr2 j h] at hr
        have e1 : m3 j = m2 (j - N + bs.length) := by simp [m3, Nat.not_lt.2 h]
        rw [e1]
        exact hrowC _ r hr
    env := fun u => by
      refine (hs.env u).mono hG ?_ (fun id hid => hm3 id hid)
      show s.rows.length ≤ nr.length
      rw [hnrlen]
      exact Nat.le_add_right _ _ }
  have hres : ∀ (j : Nat) (r : SV), res[j]? = some r → RS w' (Gd C nr m3 w') m3 nr.length (r.shift bs N) (us.getD j undef) := by
    intro j r hj
    have hv := hs'.env j
    change RS w' _ _ _ (look (enumE 0 res) j) (us.getD j undef) at hv
    rw [look_enumE] at hv
    simp only [Nat.zero_le, if_true, Nat.sub_zero, hj, Option.getD_some] at hv
    have hrf : kept → r.fresh = true := by
      intro hk
      rcases hfr with h | h
      · have hk' : sa.any (SV.isKept bs) = true := hk
        rw [h] at hk'; cases hk'
      · have := h.1
        rw [List.all_eq_true] at this
        exact this r (List.mem_of_getElem? hj)
    have hrt : r.noTup = true := by rw [List.all_eq_true] at hnt; exact hnt r (List.mem_of_getElem? hj)
    have hidx : ∀ i, i < rows'.length → ∃ i', i' < nr.length ∧ m3 i' = m2 i ∧ (match bs[i]? with | some b => b | none => i - bs.length + N) = i' := by
      intro i hi
      cases hbi : bs[i]? with
      | some b =>
        have hbN : b < N := by
          obtain ⟨r, hr, _⟩ := hblive i b hbi
          exact (List.getElem?_eq_some_iff.1 hr).1
        exact ⟨b, by rw [hnrlen]; omega, by rw [hm3 b hbN]; exact (hm2b i b hbi).symm, rfl⟩
      | none =>
        have hge : bs.length ≤ i := by simpa using hbi
        refine ⟨i - bs.length + N, by rw [hnrlen]; omega, ?_, rfl⟩
        simp only [m3]
        rw [if_neg (by omega)]
        congr 1
        omega
    generalize us.getD j undef = v at *
    cases hv with
    | any v => exact .any _
    | val u => exact .any _
    | und => exact .any _
    | pv fr p v hp =>
      simp only [SV.shift]
      cases hsc : p.scal with
      | true => exact .pv _ _ _ (hp.scal_any hsc)
      | false =>
        refine .pv _ _ _ (hp.mono fun b hb => ⟨hG2 fr b ?_ hb, rfl⟩)
        by_cases hk : kept
        · left; have := hrf hk; simpa [SV.fresh, hsc] using this
        · exact .inr hk
    | ref i hi =>
      obtain ⟨i', h1, h2, h3⟩ := hidx i hi
      have e : SV.shift bs N (.ref i) = .ref i' := by
        simp only [SV.shift]
        cases hbi : bs[i]? <;> rw [hbi] at h3 <;> simp_all
      rw [e, ← h2]
      exact .ref i' h1
    | ptr i e k o b hi hbk =>
      obtain ⟨i', h1, h2, h3⟩ := hidx i hi
      have e : SV.shift bs N (.ptr i e k o) = .ptr i' e k o := by
        simp only [SV.shift]
        cases hbi : bs[i]? <;> rw [hbi] at h3 <;> simp_all
      rw [e]
      exact .ptr i' _ _ _ b h1 (by rw [h2]; exact hbk)
    | adr fr cs' a' f' hsp hg h1' hc' hr2 => exact .any _
    | tup vs us' hl' h' => simp [SV.noTup] at hrt
    | sub i e' l h c' _ hid hs9 => exact .any _
    | clo => exact .any _
    | ag vs us' hl' h' h1' =>
      refine .ag _ us' (by simpa using hl') (fun q c u hc hu => ?_) h1'
      simp only [List.getElem?_map, Option.map_eq_some_iff] at hc
      obtain ⟨c', hc', rfl⟩ := hc
      have hcf1 : kept → c'.fresh1 = true := fun hk => by have := hrf hk; simp only [SV.fresh, List.all_eq_true] at this; exact this c' (List.mem_of_getElem? hc')
      have hv := h' q c' u hc' hu
      cases hv with
      | pv fr p v hp =>
        simp only [SV.shift1]
        cases hsc : p.scal with
        | true => exact .pv _ _ _ (hp.scal_any hsc)
        | false =>
          refine .pv _ _ _ (hp.mono fun b hb => ⟨hG2 fr b ?_ hb, rfl⟩)
          by_cases hk : kept
          · left; have := hcf1 hk; simpa [SV.fresh1, hsc] using this
          · exact .inr hk
      | ref i hi =>
        obtain ⟨i', h1, h2, h3⟩ := hidx i hi
        have e : SV.shift1 bs N (.ref i) = .ref i' := by
          simp only [SV.shift1]
          cases hbi : bs[i]? <;> rw [hbi] at h3 <;> simp_all
        rw [e, ← h2]
        exact .ref i' h1
      | _ => exact .any _
  have hput := hs2.put (blt_lt ht) (sv := packS (res.map (SV.shift bs N))) (v := pack us) (by
    match res, hus, hres with
    | [], hus, _ =>
      have : us = #[] := Array.eq_empty_of_size_eq_zero (by simpa using hus)
      subst this
      exact .tup _ _ rfl (fun j c v hc => by simp at hc)
    | [r], hus, hres =>
      have h1 : us.size = 1 := by simpa using hus
      have := hres 0 r rfl
      simp only [packS, pack, h1, dif_pos, List.map_cons, List.map_nil]
      simpa [Array.getD, h1] using this
    | r1 :: r2 :: rs, hus, hres =>
      have h1 : us.size ≠ 1 := by rw [hus]; simp
      simp only [packS, pack, h1, dif_neg, not_false_iff, List.map_cons]
      refine .tup _ _ (by rw [hus]; simp) (fun j c v hc hv => ?_)
      have hc2 : ((r1 :: r2 :: rs).map (SV.shift bs N))[j]? = some c := by simpa using hc
      simp only [List.getElem?_map, Option.map_eq_some_iff] at hc2
      obtain ⟨c', hc', rfl⟩ := hc2
      have := hres j c' hc'
      have e : us.getD j undef = v := by
        rw [Array.getElem?_eq_some_iff] at hv
        obtain ⟨hlt, e⟩ := hv
        simp [Array.getD, hlt, e]
      rw [e] at this
      exact this)
  exact hnx _ _ _ hput hsz (fun k hk hn => hold k hk (fun ⟨q, id, h1, h2⟩ => hn q id h1 h2))

end
end Go.Vl

namespace Go.Vl
open Go.RowKit
section
variable {P : Program} {C : Ctx} {Q : Go.Exit → St → Prop} {s : St} {ops : Array Oper} {rest : List Oper} {t : Nat} {ty : TypeId} {pos : String} {af : Array Edge}

/-- Which function a method is, for a dynamic type; and what it is given. -/
def MethAt (P : Program) (T : TypeId) (name : String) (p : PV) (F : FuncId) (q : PV) : Prop :=
  ∀ (w : World) (G : Nat → Prop) (v : Value), RP w G p v → ∃ r, (Go.method (P.types.size + Made.depth) T v name).run P w = .ok (F, r) w ∧ RP w G q r

end
end Go.Vl

/- Every order, one by one: for statements where an operation that writes may come before a reading one. -/
namespace Go.Vl
set_option linter.unusedVariables false
set_option linter.unusedSimpArgs false
open Go.RowKit
section
variable {late : List Nat} {P : Program} {C : Ctx} {ops : Array Oper} {K : St → Prop} {s s1 : St} {n : Nat} {listed : Array Bool}
end
section
variable {P : Program} {C : Ctx} {s : St} {t : Nat} {ty : TypeId} {pos : String} {af : Array Edge}
theorem l0_index_ref {x i : Operand} {f2 : Bool} {id R e : Nat} {nl : Option Bool} {xs : List PV} {T el : TypeId} {k : IntKind} {n : Int} {inf : TypeInfo} 
 (hx : getO s.env x = .ref id) (hrow : (s.rows[id]?).bind Row.sl = some (R, e, nl, xs)) (hi : getO s.env i = .pv f2 (.int k n)) (hT : P.underlying T = some (.slice el)) (hinf : P.info? el = some inf) (hsz : inf.size = e)
 (h0 : 0 ≤ n) (hn : n < xs.length) : Lt0 P C s ⟨some t, .indexAddr T x i, ty, pos, af, none⟩ ((.ptr id e n.toNat 0)) := by
  intro m a w hs
  have e2 := hs.int hi
  obtain ⟨hv, hid⟩ := hs.row hx
  obtain ⟨j, rfl⟩ := Int.eq_ofNat_of_zero_le h0
  have hj : j < xs.length := by omega
  obtain ⟨⟨vals, hown⟩, _, _, _⟩ := hs.sl hrow
  · rcases hown.2 with ⟨e0, hn0⟩ | ⟨g, cap, cur, e0, _, hh, hle, hmx, hsz', htk⟩
    · omega
    · rw [e0] at hv
      refine ⟨.pointer (some ⟨g, j * e, none⟩), fun _ => ?_, ?_⟩
      · have hadd : (⟨g, 0, none⟩ : Addr).add (j * e) = ⟨g, j * e, none⟩ := by
          unfold Addr.add
          split
          · rename_i h0; simp [h0]
          · simp
        simp [execOp, Instr.indexAt, hv, e2, asIntOf, run_underlying hT, sizeOf, typeInfo, hinf, hsz, hj, hadd]
      · simp only [Int.toNat_natCast]
        exact .ptr id e j 0 g hid (by rw [e0]; rfl)
end
end Go.Vl

/- Statements whose order of evaluation is open, with calls that write rows lent to the function: what reads others reads the same behind them. -/
namespace Go.Vl
set_option linter.unusedVariables false
set_option linter.unusedSimpArgs false
open Go.RowKit

/-- All that was there is there as it was, but for some blocks. -/
def ExtB (B : Nat → Prop) (w w' : World) : Prop := w.heap.size ≤ w'.heap.size ∧ ∀ k, k < w.heap.size → ¬ B k → w'.heap[k]? = w.heap[k]?
theorem ExtB.refl (B : Nat → Prop) (w : World) : ExtB B w w := ⟨Nat.le_refl _, fun _ _ _ => rfl⟩
theorem ExtB.trans {B : Nat → Prop} {a b c : World} (h : ExtB B a b) (k : ExtB B b c) : ExtB B a c := ⟨Nat.le_trans h.1 k.1, fun i hi hb => (k.2 i (Nat.lt_of_lt_of_le hi h.1) hb).trans (h.2 i hi hb)⟩
theorem ExtW.toB {B : Nat → Prop} {w w' : World} (h : ExtW w w') : ExtB B w w' := ⟨h.1, fun k hk _ => h.2 k hk⟩
theorem ExtB.cell {B : Nat → Prop} {w w' : World} (h : ExtB B w w') {a : Addr} {v : Value} (hb : ¬ B a.block) (hc : w.cell? a = some v) : w'.cell? a = some v := by
  have hlt : a.block < w.heap.size := by
    rcases Nat.lt_or_ge a.block w.heap.size with h | h
    · exact h
    · unfold World.cell? at hc
      rw [Array.getElem?_eq_none h] at hc
      cases hc
  rw [← hc]
  simp [World.cell?, h.2 _ hlt hb]
/-- The blocks of what was lent to the function. -/
def lentB (C : Ctx) (b : Nat) : Prop := ∃ id, id < C.nb ∧ (C.bv id).S b

section
variable {B : Nat → Prop} {P : Program} {ops : Array Oper} {Q : Go.Exit → Act → World → Prop}
def yieldsB (B : Nat → Prop) (P : Program) (ops : Array Oper) (o : Oper) (v : Value) (a : Act) (w : World) : Prop :=
  (Region.wanted o (yielded ops a.tmps) = true ∧ ∀ w', ExtB B w w' → (execOp a.eval o).run P w' = .ok (.value v) w') ∨ (Region.wanted o (yielded ops a.tmps) = false ∧ v = undef)

theorem yieldsB.step {o : Oper} {v : Value} {a a' : Act} {w w' : World} (h : yieldsB B P ops o v a w) (hx : ExtB B w w') (he : execOp a'.eval o = execOp a.eval o)
    (hw : Region.wanted o (yielded ops a'.tmps) = Region.wanted o (yielded ops a.tmps)) : yieldsB B P ops o v a' w' := by
  unfold yieldsB at *
  rw [he, hw]
  exact h.imp (fun h => ⟨h.1, fun w2 h2 => h.2 w2 (hx.trans h2)⟩) id

theorem yieldsB.op {i : Nat} {o : Oper} {v : Value} {a : Act} {w : World} (hi : ops[i]? = some o) (hy : yieldsB B P ops o v a w) {K : Act → World → Prop} (h : K (a.put o.dst v) w) : wpOp P ops Q i K a w := by
  unfold wpOp
  simp only [hi]
  rcases hy with ⟨hw, hv⟩ | ⟨hw, rfl⟩
  · simp only [hw, if_true, Oper.wp, hv w (ExtB.refl B w), Oper.upon]; exact .inl h
  · simp only [hw, Bool.false_eq_true, if_false]; exact h

/-- Another operation first: what only reads yields the same behind it. -/
theorem op_beforeB {j : Nat} {oi oj : Oper} {v : Value} (hj : ops[j]? = some oj) (hap : oi.apart ops oj = true) (hsi : ∀ cs b, oi.op ≠ .select cs b) (hsj : ∀ cs b, oj.op ≠ .select cs b)
    (hQ : ∀ c a w, ¬ Q (.panic c) a w) {K : Act → World → Prop} {a : Act} {w : World} (hK : ∀ a' w', K a' w' → ExtB B w w') (hy : yieldsB B P ops oi v a w) (h : wpOp P ops Q j K (a.put oi.dst v) w) :
    wpOp P ops Q j (fun a' w' => yieldsB B P ops oi v a' w' ∧ K (a'.put oi.dst v) w') a w := by
  obtain ⟨h1, h2, h3⟩ := Oper.apart_spec hap
  have keep : ∀ (u : Value) (w' : World), ExtB B w w' → yieldsB B P ops oi v (a.put oj.dst u) w' := fun u w' hx => hy.step hx (execOp_put oi hsi a oj.dst u h3) (wanted_put oi a oj.dst u h3)
  have fin : ∀ (u : Value) (w' : World), K ((a.put oi.dst v).put oj.dst u) w' → yieldsB B P ops oi v (a.put oj.dst u) w' ∧ K ((a.put oj.dst u).put oi.dst v) w' := by
    intro u w' hk
    exact ⟨keep u w' (hK _ _ hk), by rw [← Act.put_comm a v u h2]; exact hk⟩
  unfold wpOp at *
  simp only [hj] at *
  rw [wanted_put oj a oi.dst v h1] at h
  by_cases hw : Region.wanted oj (yielded ops a.tmps) = true
  · rw [if_pos hw] at h ⊢
    rcases h with h | ⟨hasks, hlets⟩
    · left
      unfold Oper.wp at *
      rw [execOp_put oj hsj a oi.dst v h1] at h
      generalize (execOp a.eval oj).run P w = r at *
      cases r with
      | ok n w' =>
        cases n with
        | value u => exact fin u w' h
        | skip => exact fin undef w' h
        | defer d =>
          simp only [Oper.upon] at h ⊢
          have hx := hK _ _ h
          refine ⟨?_, by rw [← Act.put_comm _ v undef h2, ← Act.put_defers]; exact h⟩
          have hy1 : yieldsB B P ops oi v { a with defers := d :: a.defers } w := hy.step (ExtB.refl B w) rfl rfl
          exact hy1.step hx (execOp_put oi hsi _ oj.dst undef h3) (wanted_put oi _ oj.dst undef h3)
        | enter f args =>
          simp only [Oper.upon] at h ⊢
          refine h.mono fun e w'' he => ?_
          cases e with
          | returned u => exact fin u w'' he
          | panicked c => exact (hQ _ _ _ he).elim
          | outgrown => exact he
        | row row args => exact Rows.mono h fun u w'' he => fin u w'' he
        | _ => exact h
      | halt x w' =>
        cases x <;> simp only [Oper.upon] at h ⊢
        exact (hQ _ _ _ h).elim
    · right
      refine ⟨?_, hlets⟩
      unfold Oper.asks at *
      rw [execOp_put oj hsj a oi.dst v h1] at hasks
      exact hasks
  · rw [if_neg hw] at h ⊢
    exact fin undef w h

/-- Whatever order is picked; each step leaves all that was there as it was, or is one of those that come late. -/
def anyLB (B : Nat → Prop) (late : List Nat) (P : Program) (ops : Array Oper) (Q : Go.Exit → Act → World → Prop) : Nat → Array Bool → Act → World → Prop
  | 0, listed, a, w => Region.ready .any ops listed = [] ∧ Q .normal a w
  | n + 1, listed, a, w => (Region.ready .any ops listed = [] → Q .normal a w) ∧
      ∀ i ∈ Region.ready .any ops listed, wpOp P ops Q i (fun a' w' => (ExtB B w w' ∨ late.contains i = true) ∧ anyLB B late P ops Q n (listed.setIfInBounds i true) a' w') a w

theorem any_of_anyLB {late : List Nat} : ∀ (n : Nat) (listed : Array Bool) (a : Act) (w : World), anyLB B late P ops Q n listed a w → wpAny P .any ops Q n listed a w
  | 0, _, _, _, h => h
  | n + 1, _, _, _, h => ⟨h.1, fun i hi => wpOp_mono (fun a' w' h' => any_of_anyLB n _ a' w' h'.2) (h.2 i hi)⟩

theorem anyLB_first {late : List Nat} {M : Nat → Bool} {i : Nat} {oi : Oper} {v : Value} (hi : ops[i]? = some oi) (hsel : ∀ (j : Nat) (o : Oper) cs b, ops[j]? = some o → o.op ≠ .select cs b) (hQ : ∀ c a w, ¬ Q (.panic c) a w)
    (hcl : ∀ j oj, ops[j]? = some oj → j ≠ i → (∀ e ∈ oj.after, Region.binds .any e = true → M e.on = true) → M j = true ∧ late.contains j = false) :
    ∀ (n : Nat) (listed : Array Bool) (a : Act) (w : World),
      (∀ j oj, ops[j]? = some oj → j ≠ i → listed.getD j true = false → (∀ e ∈ oj.after, Region.binds .any e = true → e.on ≠ i) → oi.apart ops oj = true) →
      (∀ k, listed.getD k false = true → M k = true) →
      i ∈ Region.ready .any ops listed → yieldsB B P ops oi v a w → anyLB B late P ops Q n (listed.setIfInBounds i true) (a.put oi.dst v) w → anyLB B late P ops Q (n + 1) listed a w := by
  intro n
  induction n with
  | zero =>
    intro listed a w _ _ hr hy H
    refine ⟨fun h => (by rw [h] at hr; cases hr), fun j hj => ?_⟩
    by_cases hji : j = i
    · subst hji; exact hy.op hi ⟨.inl (ExtB.refl B w), H⟩
    · have := ready_mono hj hji
      rw [H.1] at this
      cases this
  | succ n ih =>
    intro listed a w hfree hsub hr hy H
    refine ⟨fun h => (by rw [h] at hr; cases hr), fun j hj => ?_⟩
    by_cases hji : j = i
    · subst hji; exact hy.op hi ⟨.inl (ExtB.refl B w), H⟩
    · have g1 := H.2 j (ready_mono hj hji)
      obtain ⟨hjun, oj, hoj, hall⟩ := mem_ready.1 hj
      have hnot : ∀ e ∈ oj.after, Region.binds .any e = true → e.on ≠ i := by
        intro e he hb heq
        have l1 := hall e he hb
        have l0 := (mem_ready.1 hr).1
        rw [heq] at l1
        rcases Nat.lt_or_ge i listed.size with h' | h'
        · simp [h'] at l0 l1
          rw [l0] at l1
          cases l1
        · simp [Array.getElem?_eq_none h'] at l1
      obtain ⟨hMj, hlj⟩ := hcl j oj hoj hji (fun e he hb => hsub _ (hall e he hb))
      have hext : ∀ (w' : World), (ExtB B w w' ∨ late.contains j = true) → ExtB B w w' := by
        intro w' h
        rcases h with h | h
        · exact h
        · rw [hlj] at h; cases h
      have g2 := op_beforeB hoj (hfree j oj hoj hji hjun hnot) (fun cs b => hsel i oi cs b hi) (fun cs b => hsel j oj cs b hoj) hQ (fun _ w' h => hext w' h.1) hy g1
      have hfree' : ∀ k ok, ops[k]? = some ok → k ≠ i → (listed.setIfInBounds j true).getD k true = false → (∀ e ∈ ok.after, Region.binds .any e = true → e.on ≠ i) → oi.apart ops ok = true := by
        intro k ok hk hki hun hno
        refine hfree k ok hk hki ?_ hno
        by_cases hjk : j = k
        · subst hjk; exact hjun
        · rw [getD_set_ne true hjk] at hun; exact hun
      have hsub' : ∀ k, (listed.setIfInBounds j true).getD k false = true → M k = true := by
        intro k hk
        by_cases hjk : j = k
        · subst hjk; exact hMj
        · rw [getD_set_ne false hjk] at hk; exact hsub k hk
      refine wpOp_mono (fun a' w' g3 => ⟨g3.2.1, ih (listed.setIfInBounds j true) a' w' hfree' hsub' (ready_mono hr (Ne.symm hji)) g3.1 ?_⟩) g2
      rw [Array.setIfInBounds_comm _ _ hji]
      exact g3.2.2

theorem anyLB_first0 {late : List Nat} {i : Nat} {oi : Oper} {v : Value} (hi : ops[i]? = some oi) (hsel : ∀ (j : Nat) (o : Oper) cs b, ops[j]? = some o → o.op ≠ .select cs b) (hQ : ∀ c a w, ¬ Q (.panic c) a w) :
    ∀ (n : Nat) (listed : Array Bool) (a : Act) (w : World),
      (∀ j oj, ops[j]? = some oj → j ≠ i → listed.getD j true = false → (∀ e ∈ oj.after, Region.binds .any e = true → e.on ≠ i) → oi.apart ops oj = true) →
      i ∈ Region.ready .any ops listed → yields0 P ops oi v a → anyLB B late P ops Q n (listed.setIfInBounds i true) (a.put oi.dst v) w → anyLB B late P ops Q (n + 1) listed a w := by
  intro n
  induction n with
  | zero =>
    intro listed a w _ hr hy H
    refine ⟨fun h => (by rw [h] at hr; cases hr), fun j hj => ?_⟩
    by_cases hji : j = i
    · subst hji; exact hy.op hi ⟨.inl (ExtB.refl B w), H⟩
    · have := ready_mono hj hji
      rw [H.1] at this
      cases this
  | succ n ih =>
    intro listed a w hfree hr hy H
    refine ⟨fun h => (by rw [h] at hr; cases hr), fun j hj => ?_⟩
    by_cases hji : j = i
    · subst hji; exact hy.op hi ⟨.inl (ExtB.refl B w), H⟩
    · have g1 := H.2 j (ready_mono hj hji)
      obtain ⟨hjun, oj, hoj, hall⟩ := mem_ready.1 hj
      have hnot : ∀ e ∈ oj.after, Region.binds .any e = true → e.on ≠ i := by
        intro e he hb heq
        have l1 := hall e he hb
        have l0 := (mem_ready.1 hr).1
        rw [heq] at l1
        rcases Nat.lt_or_ge i listed.size with h' | h'
        · simp [h'] at l0 l1
          rw [l0] at l1
          cases l1
        · simp [Array.getElem?_eq_none h'] at l1
      have g2 := op_before0 hoj (hfree j oj hoj hji hjun hnot) (fun cs b => hsel i oi cs b hi) (fun cs b => hsel j oj cs b hoj) hQ hy g1
      have hfree' : ∀ k ok, ops[k]? = some ok → k ≠ i → (listed.setIfInBounds j true).getD k true = false → (∀ e ∈ ok.after, Region.binds .any e = true → e.on ≠ i) → oi.apart ops ok = true := by
        intro k ok hk hki hun hno
        refine hfree k ok hk hki ?_ hno
        by_cases hjk : j = k
        · subst hjk; exact hjun
        · rw [getD_set_ne true hjk] at hun; exact hun
      refine wpOp_mono (fun a' w' g3 => ⟨g3.2.1, ih (listed.setIfInBounds j true) a' w' hfree' (ready_mono hr (Ne.symm hji)) g3.1 ?_⟩) g2
      rw [Array.setIfInBounds_comm _ _ hji]
      exact g3.2.2
end

def LtB (P : Program) (C : Ctx) (s : St) (o : Oper) (sv : SV) : Prop :=
  ∀ m a w, SimM C s m a w → ∃ v, (∀ w', ExtB (lentB C) w w' → (execOp a.eval o).run P w' = .ok (.value v) w') ∧ RS w (Gd C s.rows m w) m s.rows.length sv v
def VLB (late : List Nat) (P : Program) (C : Ctx) (ops : Array Oper) (n : Nat) (listed : Array Bool) (K : St → Prop) (s : St) : Prop := ∀ m a w, SimM C s m a w → anyLB (lentB C) late P ops (post0 C K) n listed a w

section
variable {late : List Nat} {P : Program} {C : Ctx} {ops : Array Oper} {K : St → Prop} {s : St} {n : Nat} {listed : Array Bool}

theorem vc_drawB (late : List Nat) {id : Nat} {Q : Go.Exit → St → Prop} (hd : Region.departs ops = false) (h : VLB late P C ops ops.size (Array.replicate ops.size false) (Q .normal) s) : VC P C (.region id ops true) Q s := by
  intro a w ⟨m, hs⟩
  refine wp_region_draw fun t => ?_
  simp only [Region.schedule, hd, Bool.not_false, Bool.or_true, if_true]
  refine wpOps_monoQ (Q := post0 C (Q .normal)) ?_ _ _ _ (wpAny_sound ops.size t _ a _ (any_of_anyLB _ _ _ _ (h m a _ (hs.grow (w' := { w with drawn := w.drawn + 1 }) (ExtW.refl w) rfl rfl rfl))))
  rintro e a' w' ⟨rfl, s', hs', hk⟩
  exact ⟨s', hs', hk⟩

theorem vb_light (i : Nat) (M : List Nat) {o : Oper} {t : Nat} {sv : SV} (hi : ops[i]? = some o) (hd : o.dst = some t) (ht : Nat.blt t s.n = true) (hr : (Region.ready .any ops listed).contains i = true) (hns : Region.noSelect ops = true)
    (hf : Region.free .any ops listed i = true) (hM : closedB ops late M i = true) (hsub : subB listed M = true) (hw : Wnt C ops s o true) (hl : LtB P C s { o with guard := none } sv) (next : VLB late P C ops n (listed.setIfInBounds i true) K (s.put t sv)) : VLB late P C ops (n + 1) listed K s := by
  intro m a w hs
  obtain ⟨v, hrun, hv⟩ := hl m a w hs
  refine anyLB_first (M := M.contains) hi (Region.noSelect_spec hns) post0_panic (fun j oj hj hne he => closed_spec hM j oj hj hne he) n listed a w (Region.free_spec hi hf) (sub_spec hsub) (by simpa using hr) (.inl ⟨hw m a w hs, hrun⟩) ?_
  rw [hd]
  exact next m _ _ (hs.put (blt_lt ht) hv)

theorem vb_light0 (i : Nat) {o : Oper} {t : Nat} {sv : SV} (hi : ops[i]? = some o) (hd : o.dst = some t) (ht : Nat.blt t s.n = true) (hr : (Region.ready .any ops listed).contains i = true) (hns : Region.noSelect ops = true)
    (hf : Region.free .any ops listed i = true) (hw : Wnt C ops s o true) (hl : Lt0 P C s { o with guard := none } sv) (next : VLB late P C ops n (listed.setIfInBounds i true) K (s.put t sv)) : VLB late P C ops (n + 1) listed K s := by
  intro m a w hs
  obtain ⟨v, hrun, hv⟩ := hl m a w hs
  refine anyLB_first0 hi (Region.noSelect_spec hns) post0_panic n listed a w (Region.free_spec hi hf) (by simpa using hr) (.inl ⟨hw m a w hs, hrun⟩) ?_
  rw [hd]
  exact next m _ _ (hs.put (blt_lt ht) hv)

theorem vb_nil (hr : Region.ready .any ops listed = []) (h : K s) : VLB late P C ops n listed K s := by
  intro m a w hs
  have hq : post0 C K .normal a w := ⟨rfl, s, ⟨m, hs⟩, h⟩
  cases n with
  | zero => exact ⟨hr, hq⟩
  | succ n => exact ⟨fun _ => hq, by rw [hr]; simp⟩

/-- An operation when nothing else can come. -/
theorem vb_one (i : Nat) {o : Oper} (hi : ops[i]? = some o) (hr : Region.ready .any ops listed = [i]) (hlate : late.contains i = true)
    (h : VO P C ops [o] (fun e s' => e = .normal ∧ VLB late P C ops n (listed.setIfInBounds i true) K s') s) : VLB late P C ops (n + 1) listed K s := by
  intro m a w hs
  refine ⟨fun h0 => (by rw [hr] at h0; cases h0), fun j hj => ?_⟩
  rw [hr] at hj
  simp at hj
  subst hj
  have h1 := h a w ⟨m, hs⟩
  have hfin : ∀ a' w', wpList P ops (post C (fun e s' => e = .normal ∧ VLB late P C ops n (listed.setIfInBounds j true) K s')) [] a' w' → (ExtB (lentB C) w w' ∨ late.contains j = true) ∧ anyLB (lentB C) late P ops (post0 C K) n (listed.setIfInBounds j true) a' w' := by
    rintro a' w' ⟨s', ⟨m', hs'⟩, _, h2⟩
    exact ⟨.inr hlate, h2 m' a' w' hs'⟩
  have hpost : ∀ e a' w', e ≠ .normal → post C (fun e s' => e = .normal ∧ VLB late P C ops n (listed.setIfInBounds j true) K s') e a' w' → post0 C K e a' w' := by
    rintro e a' w' hne ⟨s', _, h2, _⟩
    exact absurd h2 hne
  unfold wpOp
  simp only [hi]
  unfold wpList at h1
  by_cases hw : Region.wanted o (yielded ops a.tmps) = true
  · rw [if_pos hw] at h1 ⊢
    rcases h1 with h1 | ⟨h1, a2, w2, h2⟩
    · exact .inl (wp_mono2 hpost hfin h1)
    · exact .inr ⟨h1, a2, w2, hpost _ _ _ (by simp) h2⟩
  · rw [if_neg hw] at h1 ⊢
    exact hfin _ _ h1

theorem vb_st {s' : St} (h : s = s') (next : VLB late P C ops n listed K s') : VLB late P C ops n listed K s := by rw [h]; exact next
theorem vb_expose (id : Nat) {el e : Nat} {nl : Option Bool} {f : Bool} {xs : List PV} (hnb : C.nb ≤ id) (hrow : s.rows[id]? = some (.own el e nl f xs))
    (next : VLB late P C ops n listed K ⟨s.n, exposeE id (.pv f (.sl nl e xs)) s.env, (s.rows.map (Row.expose id (.pv f (.sl nl e xs)))).set id .dead⟩) : VLB late P C ops n listed K s :=
  fun m a w hs => next _ a w (hs.expose hnb hrow)
theorem vb_weaken (u : Nat) {e : Nat} {nl : Option Bool} {f : Bool} {xs : List PV} (hu : look s.env u = .pv f (.sl nl e xs))
    (next : VLB late P C ops n listed K ⟨s.n, (u, .pv f (.sl none e xs)) :: s.env, s.rows⟩) : VLB late P C ops n listed K s := by
  intro m a w hs
  refine next m a w { hs with env := fun q => ?_ }
  show RS _ _ _ _ (look ((u, .pv f (.sl none e xs)) :: s.env) q) _
  rw [look_cons]
  split
  · rename_i e
    subst e
    have hv := hs.env q
    rw [hu] at hv
    exact .pv _ _ _ hv.pv_inv.weaken
  · exact hs.env q
end
section
variable {late : List Nat} {P : Program} {C : Ctx} {ops : Array Oper} {K : St → Prop} {s s1 : St} {n : Nat} {listed : Array Bool}
def StepB (late : List Nat) (P : Program) (C : Ctx) (ops : Array Oper) (n : Nat) (listed : Array Bool) (K : St → Prop) (s : St) (i : Nat) : Prop :=
  ∀ m a w, SimM C s m a w → wpOp P ops (post0 C K) i (fun a' w' => (ExtB (lentB C) w w' ∨ late.contains i = true) ∧ anyLB (lentB C) late P ops (post0 C K) n (listed.setIfInBounds i true) a' w') a w
theorem vb_any2 (i j : Nat) (hr : Region.ready .any ops listed = [i, j]) (h1 : StepB late P C ops n listed K s i) (h2 : StepB late P C ops n listed K s j) : VLB late P C ops (n + 1) listed K s := by
  intro m a w hs
  refine ⟨fun h0 => (by rw [hr] at h0; cases h0), fun q hq => ?_⟩
  rw [hr] at hq
  simp at hq
  rcases hq with rfl | rfl
  · exact h1 m a w hs
  · exact h2 m a w hs
theorem vb_any3 (i j k : Nat) (hr : Region.ready .any ops listed = [i, j, k]) (h1 : StepB late P C ops n listed K s i) (h2 : StepB late P C ops n listed K s j) (h3 : StepB late P C ops n listed K s k) : VLB late P C ops (n + 1) listed K s := by
  intro m a w hs
  refine ⟨fun h0 => (by rw [hr] at h0; cases h0), fun q hq => ?_⟩
  rw [hr] at hq
  simp at hq
  rcases hq with rfl | rfl | rfl
  · exact h1 m a w hs
  · exact h2 m a w hs
  · exact h3 m a w hs
theorem sb_ext (i : Nat) {t : Nat} {op : Op} {ty : TypeId} {pos : String} {af : Array Edge} {sv : SV} (hi : ops[i]? = some ⟨some t, op, ty, pos, af, none⟩) (ht : Nat.blt t s1.n = true)
    (hx : Xt P C s ⟨some t, op, ty, pos, af, none⟩ s1 sv) (next : VLB late P C ops n (listed.setIfInBounds i true) K (s1.put t sv)) : StepB late P C ops n listed K s i := by
  intro m a w hs
  obtain ⟨v, w', m', h1, h2, h3, h4⟩ := hx m a w hs
  unfold wpOp
  simp only [hi]
  have hw : Region.wanted ⟨some t, op, ty, pos, af, none⟩ (yielded ops a.tmps) = true := by simp [Region.wanted]
  rw [if_pos hw]
  left
  unfold Oper.wp
  rw [h1, Oper.upon_value]
  exact ⟨.inl h4.toB, next m' _ _ (h2.put (blt_lt ht) h3)⟩
theorem sb_one (i : Nat) {o : Oper} (hi : ops[i]? = some o) (hlate : late.contains i = true)
    (h : VO P C ops [o] (fun e s' => e = .normal ∧ VLB late P C ops n (listed.setIfInBounds i true) K s') s) : StepB late P C ops n listed K s i := by
  intro m a w hs
  have h1 := h a w ⟨m, hs⟩
  have hfin : ∀ a' w', wpList P ops (post C (fun e s' => e = .normal ∧ VLB late P C ops n (listed.setIfInBounds i true) K s')) [] a' w' → (ExtB (lentB C) w w' ∨ late.contains i = true) ∧ anyLB (lentB C) late P ops (post0 C K) n (listed.setIfInBounds i true) a' w' := by
    rintro a' w' ⟨s', ⟨m', hs'⟩, _, h2⟩
    exact ⟨.inr hlate, h2 m' a' w' hs'⟩
  have hpost : ∀ e a' w', e ≠ .normal → post C (fun e s' => e = .normal ∧ VLB late P C ops n (listed.setIfInBounds i true) K s') e a' w' → post0 C K e a' w' := by
    rintro e a' w' hne ⟨s', _, h2, _⟩
    exact absurd h2 hne
  unfold wpOp
  simp only [hi]
  unfold wpList at h1
  by_cases hw : Region.wanted o (yielded ops a.tmps) = true
  · rw [if_pos hw] at h1 ⊢
    rcases h1 with h1 | ⟨h1, a2, w2, h2⟩
    · exact .inl (wp_mono2 hpost hfin h1)
    · exact .inr ⟨h1, a2, w2, hpost _ _ _ (by simp) h2⟩
  · rw [if_neg hw] at h1 ⊢
    exact hfin _ _ h1
theorem vb_ext (i : Nat) {t : Nat} {op : Op} {ty : TypeId} {pos : String} {af : Array Edge} {sv : SV} (hi : ops[i]? = some ⟨some t, op, ty, pos, af, none⟩) (hr : Region.ready .any ops listed = [i]) (ht : Nat.blt t s1.n = true)
    (hx : Xt P C s ⟨some t, op, ty, pos, af, none⟩ s1 sv) (next : VLB late P C ops n (listed.setIfInBounds i true) K (s1.put t sv)) : VLB late P C ops (n + 1) listed K s := by
  intro m a w hs
  refine ⟨fun h0 => (by rw [hr] at h0; cases h0), fun j hj => ?_⟩
  rw [hr] at hj
  simp at hj
  subst hj
  obtain ⟨v, w', m', h1, h2, h3, h4⟩ := hx m a w hs
  unfold wpOp
  simp only [hi]
  have hw : Region.wanted ⟨some t, op, ty, pos, af, none⟩ (yielded ops a.tmps) = true := by simp [Region.wanted]
  rw [if_pos hw]
  left
  unfold Oper.wp
  rw [h1, Oper.upon_value]
  exact ⟨.inl h4.toB, next m' _ _ (h2.put (blt_lt ht) h3)⟩
end
theorem vc_drawBD (late pt pg : List Nat) {P : Program} {C : Ctx} {ops : Array Oper} {s : St} {id : Nat} {Q : Go.Exit → St → Prop} (h1 : pt.all (fun i => Nat.blt i ops.size) = true) (h2 : orderB .text ops [] pt = true) (h3 : pg.all (fun i => Nat.blt i ops.size) = true) (h4 : orderB .gc ops [] pg = true)
    (h : VLB late P C ops ops.size (Array.replicate ops.size false) (Q .normal) s) : VC P C (.region id ops true) Q s := by
  intro a w ⟨m, hs⟩
  refine wp_region_draw fun t => ?_
  have hany := any_of_anyLB _ _ _ _ (h m a _ (hs.grow (w' := { w with drawn := w.drawn + 1 }) (ExtW.refl w) rfl rfl rfl))
  have hfin : ∀ e a' w', post0 C (Q .normal) e a' w' → post C Q e a' w' := by
    rintro e a' w' ⟨rfl, s', hs', hk⟩
    exact ⟨s', hs', hk⟩
  unfold Region.schedule
  split
  · exact wpOps_monoQ hfin _ _ _ (wpAny_sound ops.size t _ a _ hany)
  · split
    · exact wpOps_monoQ hfin _ _ _ (wpAny_sound ops.size _ _ a _ (wpAny_md (order_any pt h1 h2) _ _ _ _ (by simp) hany))
    · exact wpOps_monoQ hfin _ _ _ (wpAny_sound ops.size _ _ a _ (wpAny_md (order_any pg h3 h4) _ _ _ _ (by simp) hany))

section
variable {P : Program} {C : Ctx} {s : St} {t : Nat} {ty : TypeId} {pos : String} {af : Array Edge}
theorem SimM.nbor {m : Nat → MV} {a : Act} {w : World} (hs : SimM C s m a w) {k0 id b : Nat} (hC : C.nb = k0) (hlv : (s.rows.take k0).all Row.live = true) (hge : Nat.ble k0 id = true) (hl : liveAt s.rows id) (hb : (m id).S b) : ¬ lentB C b := by
  rintro ⟨j, hj, hbj⟩
  have hge := Nat.le_of_ble_eq_true hge
  have hjl : j < s.rows.length := Nat.lt_of_lt_of_le hj hs.nbl
  have hlj : liveAt s.rows j := by
    refine ⟨s.rows[j], List.getElem?_eq_getElem hjl, ?_⟩
    rw [List.all_eq_true] at hlv
    refine hlv _ (List.mem_of_getElem? (i := j) ?_)
    rw [List.getElem?_take, if_pos (by omega)]
    exact List.getElem?_eq_getElem hjl
  rw [← hs.bor j hj] at hbj
  have := hs.dist id j b hl hlj hb hbj
  omega
theorem lb_load_var {x : Operand} {T id e i o R k0 : Nat} {cs : List SV} {sv : SV} {D : TypeDesc} (hC : C.nb = k0) (hlv : (s.rows.take k0).all Row.live = true) (hge : Nat.ble k0 id = true) (hx : getO s.env x = .ptr id e i o) (hrow : s.rows[id]? = some (.var R cs))
    (hT : P.underlying T = some D) (hD : (match D with | .struct _ | .array _ _ => true | _ => false) = false) (hc : cs[i * e + o]? = some sv) : LtB P C s ⟨some t, .load T x, ty, pos, af, none⟩ (sv) := by
  intro m a w hs
  obtain ⟨b, hv, hb, hid⟩ := hs.ptr hx
  have hnb : ∀ b', (m id).S b' → ¬ lentB C b' := fun b' h => hs.nbor hC hlv hge ⟨_, hrow, rfl⟩ h
  have hR := hs.rows id _ hrow
  generalize hmv : m id = v at *
  cases hR with
  | var b' t' cs cur hbk hl hr h1 =>
    simp only [MV.of, blk, Option.some.injEq] at hb
    subst hb
    have hlt : i * e + o < cur.size := by rw [hl]; exact (List.getElem?_eq_some_iff.1 hc).1
    have hu : cur[i * e + o]? = some cur[i * e + o] := Array.getElem?_eq_getElem hlt
    have hcell : w.cell? ⟨b', i * e + o, none⟩ = some cur[i * e + o] := by
      rw [cell_of_row w b' _ cur R (0, 0) hbk]; exact hu
    refine ⟨cur[i * e + o], fun w' hw' => ?_, hr _ sv _ hc hu⟩
    have hcell := hw'.cell (hnb b' rfl) hcell
    have hagg := isAgg_false hT hD w'
    simp [execOp, Instr.loadAt, hv, Instr.sureAddr, loadVar, hagg, load, Sem.run, hcell]

theorem lb_load_varG {x : Operand} {T id e i o R n k0 : Nat} {cs : List SV} {D : TypeDesc} {inf : TypeInfo} (hC : C.nb = k0) (hlv : (s.rows.take k0).all Row.live = true) (hge : Nat.ble k0 id = true) (hx : getO s.env x = .ptr id e i o) (hrow : s.rows[id]? = some (.var R cs))
    (hT : P.underlying T = some D) (hD : D.isRow = true) (hinf : P.info? T = some inf) (hsz : inf.size = n) (hle : Nat.ble (i * e + o + n) cs.length = true) :
    LtB P C s ⟨some t, .load T x, ty, pos, af, none⟩ (.ag ((cs.drop (i * e + o)).take n)) := by
  intro m a w hs
  have hle := Nat.le_of_ble_eq_true hle
  obtain ⟨b, cur, hv, hmb, hbk, hl, hr, h1⟩ := hs.var hx hrow
  have hnb : ¬ lentB C b := hs.nbor hC hlv hge ⟨_, hrow, rfl⟩ (by rw [hmb]; rfl)
  have hget : ∀ j, ((cur.toList.drop (i * e + o)).take n)[j]? = if j < n then cur[i * e + o + j]? else none := by
    intro j
    rw [List.getElem?_take]
    split
    · rw [List.getElem?_drop]; simp
    · rfl
  refine ⟨.agg ((cur.toList.drop (i * e + o)).take n).toArray, fun w' hw' => ?_, ?_⟩
  · have := run_loadAt_mid (P := P) w' b (i * e + o) T ((cur.toList.drop (i * e + o)).take n) D (fun j v hj => by
      rw [hget] at hj
      split at hj
      · exact hw'.cell hnb (by rw [cell_of_row w b _ cur R (0, 0) hbk]; exact hj)
      · cases hj) hT hD (by rw [hinf]; simp [hsz]; omega)
    simp [execOp, hv, this]
  · refine .ag _ _ (by simp; omega) (fun j c u hc hu => ?_) (fun j u hu => ?_)
    · have hu : ((cur.toList.drop (i * e + o)).take n)[j]? = some u := by simpa using hu
      rw [hget] at hu
      rw [List.getElem?_take, List.getElem?_drop] at hc
      split at hu
      · rename_i hj; rw [if_pos hj] at hc; exact hr _ c u hc hu
      · cases hu
    · have hu : ((cur.toList.drop (i * e + o)).take n)[j]? = some u := by simpa using hu
      rw [hget] at hu
      split at hu
      · exact h1 _ u hu
      · cases hu

theorem l0_fieldAddr_ptr {x : Operand} {S : TypeId} {k id e i o : Nat} {fs : Array Field} {fd : Field} {inf : TypeInfo} (hx : getO s.env x = .ptr id e i o)
 (hS : P.underlying S = some (.struct fs)) (hk : fs[k]? = some fd) (hinf : P.info? fd.type = some inf) (hsz : ¬ inf.size = 0) : Lt0 P C s ⟨some t, .fieldAddr S x k, ty, pos, af, none⟩ ((.ptr id e i (o + fd.offset))) := by
  intro m a w hs
  obtain ⟨b, he, hb, hid⟩ := hs.ptr hx
  refine ⟨.pointer (some ⟨b, i * e + (o + fd.offset), none⟩), fun _ => ?_, .ptr id e i _ b hid hb⟩
  simp [execOp, he, Instr.fieldAt, run_underlying hS, hk, Instr.sureAddr, fieldPlace, sizeOf, typeInfo, hinf, hsz, Addr_add, Nat.add_assoc]
theorem l0_assign {x : Operand} : Lt0 P C s ⟨some t, .assign x, ty, pos, af, none⟩ (getO s.env x) := fun m a w hs => ⟨a.eval x, fun _ => rfl, hs.get x⟩
theorem l0_assign_pv {x : Operand} {f : Bool} {p : PV} (hx : getO s.env x = .pv f p) : Lt0 P C s ⟨some t, .assign x, ty, pos, af, none⟩ (.pv f p) := by rw [← hx]; exact l0_assign
end
section
variable {late : List Nat} {P : Program} {C : Ctx} {ops : Array Oper} {K : St → Prop} {s : St} {n : Nat} {listed : Array Bool}
/-- A call that writes only what was lent. -/
theorem sb_call (i : Nat) (bs : List Nat) {k0 : Nat} (hC : C.nb = k0) (hbs : bs.all (fun id => Nat.blt id k0) = true) {brows : List Row} {t : Nat} {ty : TypeId} {pos : String} {af : Array Edge} {gd : Option (Nat × Bool)} {f : FuncId} {fn : Func} {xs : Array Operand} {Ts : Array TypeId} {args : List SV} {R : List SV → List Row → Prop}
    (hi : ops[i]? = some ⟨some t, .call ⟨.value (.func f), xs, Ts⟩, ty, pos, af, gd⟩) (hw : Wnt C ops s ⟨some t, .call ⟨.value (.func f), xs, Ts⟩, ty, pos, af, gd⟩ true)
    (hf : P.funcs[f]? = some fn) (hnm : (fn.name == "runtime.NumGoroutine") = false) (hbd : fn.body.isNone = false) (ht : Nat.blt t s.n = true)
    (hb1 : bs.map (fun id => (s.rows[id]?).map Row.toArg) = brows.map some) (hb2 : brows.all Row.live = true) (hb3 : bs.map (placeOf bs) = (List.range bs.length).map some)
    (hargs : (xs.toList.map (getO s.env)).mapM (argOfB bs s.rows) = some args) (hsat : SatAt P f args brows R)
    (next : ∀ res rows', R res rows' → bs.length ≤ rows'.length ∧ (res.all SV.noTup = true ∧ rows'.all (Row.bdd 0) = true ∧ (rows'.take bs.length).all Row.live = true ∧ rows'.all Row.noGh = true) ∧
      (((xs.toList.map (getO s.env)).any (SV.isKept bs) = false) ∨ (res.all SV.fresh = true ∧ rows'.all Row.fresh = true)) ∧
      VLB late P C ops n (listed.setIfInBounds i true) K ⟨s.n, (t, packS (res.map (SV.shift bs s.rows.length))) :: s.env, rowsAfter bs s.rows rows'⟩) :
    StepB late P C ops n listed K s i := by
  intro m a w hs
  unfold wpOp
  simp only [hi]
  rw [if_pos (hw m a w hs)]
  left
  have hbs' : ∀ (q id : Nat), bs[q]? = some id → id < C.nb := fun q id hq => by
    rw [List.all_eq_true] at hbs
    rw [hC]; exact blt_lt (hbs id (List.mem_of_getElem? hq))
  have hrc : (execOp a.eval ⟨some t, .call ⟨.value (.func f), xs, Ts⟩, ty, pos, af, gd⟩).run P w = .ok (.enter f (xs.map a.eval)) w := run_call (t := t) (ty := ty) (pos := pos) (af := af) hf hnm hbd (some t)
  refine ow_callA (sa := xs.toList.map (getO s.env)) (va := xs.map a.eval) bs hs hrc (by simp) (fun u x hu => ?_) ht hb1 hb2 hb3 hargs hsat
    (fun res rows' hR => let ⟨h1, h2, h3, h4⟩ := next res rows' hR; ⟨h1, h2, h3, fun m' a' w' hs' hsz hold => ⟨.inl ⟨hsz, fun k hk hb => hold k hk fun q id hq hS => hb ⟨id, hbs' q id hq, by rw [← hs.bor id (hbs' q id hq)]; exact hS⟩⟩, h4 m' a' w' hs'⟩⟩)
  simp only [List.getElem?_map, Option.map_eq_some_iff] at hu
  obtain ⟨o, ho, rfl⟩ := hu
  have ho' : xs[u]? = some o := by simpa using ho
  have e : (xs.map a.eval).getD u undef = a.eval o := by
    rw [Array.getD_eq_getD_getElem?, Array.getElem?_map, ho']; rfl
  rw [e]
  exact hs.get o
theorem vb_any1 (i : Nat) (hr : Region.ready .any ops listed = [i]) (h1 : StepB late P C ops n listed K s i) : VLB late P C ops (n + 1) listed K s := by
  intro m a w hs
  refine ⟨fun h0 => (by rw [hr] at h0; cases h0), fun q hq => ?_⟩
  rw [hr] at hq
  simp at hq
  subst hq
  exact h1 m a w hs
theorem vb_stM {s' : St} (next : VLB late P C ops n listed K s') (h : s = s' := by (try simp only [St.put, exposeE, killE, SV.expose, SV.kill, Row.expose, Row.kill, rowsAfter_nil, rowsAfter_one, packS, SV.shift, placeOf, enumE, List.zip_cons_cons, List.zip_nil_right, List.map_cons, List.map_nil, List.set_cons_zero, List.set_cons_succ, List.length_cons, List.length_nil, List.cons_append, List.nil_append, List.drop_succ_cons, List.drop_zero, List.drop_nil, List.take_succ_cons, List.take_zero, List.take_nil, List.getElem?_cons_zero, List.getElem?_cons_succ, List.getElem?_nil, Option.getD_some, Option.getD_none, Option.map_some, Option.map_none, Nat.reduceAdd, Nat.reduceSub, Nat.reduceEqDiff, Nat.zero_add, Bool.true_or, PV.scal, Bool.or_false, Bool.or_true, Bool.false_or, Bool.and_true, Bool.and_false, Bool.true_and, reduceIte, reduceCtorEq, SV.kill1, SV.expose1, deadAll, refsOf, List.foldl_cons, List.foldl_nil, takeSV, takeRows, takeP, takePV, setAll, resG, look_cons, Nat.succ.injEq, Nat.add_eq, Nat.mul_one, Nat.mul_zero, Nat.zero_mul, Nat.add_zero, List.map_map, PV.cells, Nat.reduceMul, List.append_nil, Option.some.injEq, Int.toNat_natCast]); exact eq_refl _) : VLB late P C ops n listed K s := vb_st h next
end
end Go.Vl

/- More for such statements: what is taken out of a row; nil cells of rows. -/
namespace Go.Vl
set_option linter.unusedVariables false
set_option linter.unusedSimpArgs false
open Go.RowKit
section
variable {late : List Nat} {P : Program} {C : Ctx} {ops : Array Oper} {K : St → Prop} {s : St} {n : Nat} {listed : Array Bool}
theorem sb_light (i : Nat) {o : Oper} {t : Nat} {sv : SV} (hi : ops[i]? = some o) (hd : o.dst = some t) (ht : Nat.blt t s.n = true) (hw : Wnt C ops s o true)
    (hl : LtB P C s { o with guard := none } sv) (next : VLB late P C ops n (listed.setIfInBounds i true) K (s.put t sv)) : StepB late P C ops n listed K s i := by
  intro m a w hs
  obtain ⟨v, hrun, hv⟩ := hl m a w hs
  have hy : yieldsB (lentB C) P ops o v a w := .inl ⟨hw m a w hs, hrun⟩
  refine hy.op hi ⟨.inl (ExtB.refl _ w), ?_⟩
  rw [hd]
  exact next m _ _ (hs.put (blt_lt ht) hv)

/-- An operation that leaves all memory as it is, or makes new: what is told of it is not known at once. -/
def XtE (P : Program) (C : Ctx) (s : St) (o : Oper) (α : Type) (s1 : α → St) (sv : SV) : Prop :=
  ∀ m a w, SimM C s m a w → ∃ x v w' m', (execOp a.eval o).run P w = .ok (.value v) w' ∧ SimM C (s1 x) m' a w' ∧ RS w' (Gd C (s1 x).rows m' w') m' (s1 x).rows.length sv v ∧ ExtW w w'
theorem sb_extE (i : Nat) {α : Type} {s1 : α → St} {t : Nat} {op : Op} {ty : TypeId} {pos : String} {af : Array Edge} {sv : SV} (hi : ops[i]? = some ⟨some t, op, ty, pos, af, none⟩) (ht : ∀ x, Nat.blt t (s1 x).n = true)
    (hx : XtE P C s ⟨some t, op, ty, pos, af, none⟩ α s1 sv) (next : ∀ x, VLB late P C ops n (listed.setIfInBounds i true) K ((s1 x).put t sv)) : StepB late P C ops n listed K s i := by
  intro m a w hs
  obtain ⟨x, v, w', m', h1, h2, h3, h4⟩ := hx m a w hs
  unfold wpOp
  simp only [hi]
  have hw : Region.wanted ⟨some t, op, ty, pos, af, none⟩ (yielded ops a.tmps) = true := by simp [Region.wanted]
  rw [if_pos hw]
  left
  unfold Oper.wp
  rw [h1, Oper.upon_value]
  exact ⟨.inl h4.toB, next x m' _ _ (h2.put (blt_lt (ht x)) h3)⟩
end
section
variable {P : Program} {C : Ctx} {Q : Go.Exit → St → Prop} {s : St} {ops : Array Oper} {rest : List Oper} {t : Nat} {ty : TypeId} {pos : String} {af : Array Edge}
theorem xt_load_take1 {x : Operand} {T id R i e' : Nat} {nl nl' : Option Bool} {xs ys : List PV} {D : TypeDesc} (hx : getO s.env x = .ptr id 1 i 0) (hrow : s.rows[id]? = some (.tree R 1 nl none xs)) (hnb : C.nb ≤ id)
    (hT : P.underlying T = some D) (hD : (match D with | .struct _ | .array _ _ => true | _ => false) = false) (hget : xs[i]? = some (.sl nl' e' ys)) :
    XtE P C s ⟨some t, .load T x, ty, pos, af, none⟩ TypeId (fun Rf => ⟨s.n, s.env, s.rows.set id (.tree R 1 nl none (xs.set i .gone)) ++ [.tree Rf e' nl' none ys]⟩) (.ref s.rows.length) := by
  intro m a w hs
  obtain ⟨b, vals, Sf, hv, hb, hown, hf, hcell, hr, hd, hn, hz, hS, h1, h2, hw, _⟩ := hs.elemT hx hrow hget
  obtain ⟨Rf, m', hs', hG, hmv, hnew⟩ := hs.takeRow hnb hrow hget rfl hown hr hd hn hz hS h1 h2 hw
  have hi : i < xs.length := (List.getElem?_eq_some_iff.1 hget).1
  have hlt : i * 1 + 0 < xs.length * 1 := by omega
  have hvl : vals.length = xs.length * 1 := hown.1
  have hu : vals[i * 1 + 0]? = some (vals.getD (i * 1 + 0) undef) := by rw [List.getD_eq_getElem?_getD, List.getElem?_eq_getElem (by omega)]; rfl
  have hcl := hcell _ hlt
  rw [hu] at hcl
  refine ⟨Rf 0, vals.getD (i * 1 + 0) undef, w, m', ?_, hs', ?_, ExtW.refl w⟩
  · have hagg := isAgg_false hT hD w
    simp only [Nat.mul_one, Nat.add_zero] at hcl hv
    simp [execOp, Instr.loadAt, hv, Instr.sureAddr, loadVar, hagg, load, Sem.run, hcl]
  · obtain ⟨g1, g2⟩ := hnew 0 0 rfl
    rw [Nat.add_zero] at g1 g2
    show RS _ _ _ _ (.ref s.rows.length) _
    rw [← g1]
    exact .ref _ g2

end
section
variable {late : List Nat} {P : Program} {C : Ctx} {ops : Array Oper} {K : St → Prop} {s : St} {n : Nat} {listed : Array Bool}
theorem vb_treeown (id : Nat) (hnb : C.nb ≤ id) {el e : Nat} {nl : Option Bool} {xs : List PV} (hrow : s.rows[id]? = some (.tree el e nl none xs))
    (next : VLB late P C ops n listed K ⟨s.n, s.env, s.rows.set id (.own el e nl false xs)⟩) : VLB late P C ops n listed K s :=
  fun m a w hs => next _ a w (hs.treeown id hnb hrow)
end
end Go.Vl

namespace Go.Vl
set_option linter.unusedVariables false
set_option linter.unusedSimpArgs false
open Go.Proofs
theorem S25n : StInfo Try.prog 25 [(0, 1), (1, 1), (2, 1)] [(.sl (some true) 1 []), (.sl (some true) 1 []), (.sl (some true) 1 [])] := by
  refine ⟨⟨_, Try.underlying25⟩, #[(.slice none 0 0), (.slice none 0 0), (.slice none 0 0)], fun l => by kernel_rfl, fun w G => .agg _ _ rfl ?_ ?_⟩
  · intro j c h
    match j, h with
    | 0, h => cases h; rfl
    | 1, h => cases h; rfl
    | 2, h => cases h; rfl
  · intro j c u h hu
    match j, h, hu with
    | 0, h, hu => cases h; cases hu; exact .nilsl _ _ (by decide)
    | 1, h, hu => cases h; cases hu; exact .nilsl _ _ (by decide)
    | 2, h, hu => cases h; cases hu; exact .nilsl _ _ (by decide)

def smX (X : WorksM) : Prop := (1 ≤ X.bases.length ∧ X.bases.length ≤ 9 ∧ ∀ l ∈ X.bases, l.length ≤ 3) ∧ (X.abs.length = X.bases.length ∧ ∀ l ∈ X.abs, l.length ≤ 5) ∧ X.real.length = X.bases.length ∧ ∀ l ∈ X.real, l.length ≤ 5
def medX (X : WorksM) : Prop := (1 ≤ X.bases.length ∧ X.bases.length ≤ 9 ∧ ∀ l ∈ X.bases, l.length ≤ 3) ∧ (X.abs.length = X.bases.length ∧ ∀ l ∈ X.abs, l.length ≤ 7) ∧ X.real.length = X.bases.length ∧ ∀ l ∈ X.real, l.length ≤ 7
theorem medX.sk {X : WorksM} (h : medX X) : SK X := by
  obtain ⟨⟨_, h1, h2⟩, ⟨h3, h4⟩, h5, h6⟩ := h
  exact ⟨⟨by omega, fun l hl => by have := h2 l hl; omega⟩, ⟨by omega, fun l hl => by have := h4 l hl; omega⟩, by omega, fun l hl => by have := h6 l hl; omega⟩
theorem appX_all {α : Type} {p : α → Prop} {l : List α} {x : α} (h : ∀ y ∈ l, p y) (hx : p x) : ∀ y ∈ l ++ [x], p y := by
  intro y hy
  rcases List.mem_append.1 hy with h1 | h1
  · exact h y h1
  · rw [List.mem_singleton.1 h1]; exact hx
theorem setX_all {α : Type} {p : α → Prop} {l : List α} {x : α} (h : ∀ y ∈ l, p y) (hx : p x) (i : Nat) : ∀ y ∈ l.set i x, p y := by
  intro y hy
  rcases List.mem_or_eq_of_mem_set hy with h1 | h1
  · exact h y h1
  · rw [h1]; exact hx
theorem appX_two (l : List Int) (a b : Int) : l.map intP ++ [.int .i64 a, .int .i64 b] = (l ++ [a, b]).map intP := by simp
theorem medX_of {X : WorksM} (hb : 1 ≤ X.bases.length ∧ X.bases.length ≤ 9 ∧ ∀ l ∈ X.bases, l.length ≤ 3) (ha1 : X.abs.length = X.bases.length) (ha2 : ∀ l ∈ X.abs, l.length ≤ 5) (hr1 : X.real.length = X.bases.length) (hr2 : ∀ l ∈ X.real, l.length ≤ 5) (k : Nat) (y : Int) :
    medX ⟨X.bases, X.abs, X.real.set k (X.real.getD k [] ++ [7, 7])⟩ ∧ medX ⟨X.bases, X.abs.set k (X.abs.getD k [] ++ [y]), X.real⟩ ∧ medX ⟨X.bases, X.abs, X.real⟩ := by
  have h1 := getD_all (p := fun l : List Int => l.length ≤ 5) ha2 [] (by simp) k
  have h2 := getD_all (p := fun l : List Int => l.length ≤ 5) hr2 [] (by simp) k
  have a7 : ∀ l ∈ X.abs, l.length ≤ 7 := fun l hl => by have := ha2 l hl; omega
  have r7 : ∀ l ∈ X.real, l.length ≤ 7 := fun l hl => by have := hr2 l hl; omega
  exact ⟨⟨hb, ⟨ha1, a7⟩, by rw [List.length_set]; exact hr1, setX_all r7 (by simp only [List.length_append, List.length_cons, List.length_nil]; omega) k⟩,
    ⟨hb, ⟨by rw [List.length_set]; exact ha1, setX_all a7 (by simp only [List.length_append, List.length_cons, List.length_nil]; omega) k⟩, hr1, r7⟩, ⟨hb, ⟨ha1, a7⟩, hr1, r7⟩⟩

theorem someWorks_sat {nl : Option Bool} {c : List (Fin 256)} {p : Nat} (hc : c.length ≤ 2000) (hp : p < 990000) : SatAt Try.prog 97 [.ptr 0 0 0 0] [rdr nl c p] (fun res rows => ∃ (X : WorksM) (q : Nat) (f : Bool), (smX X ∧ q ≤ p + 200) ∧ res = [.ag [.pv f (.sl none 1 (X.bases.map ints)), .ref 1, .ref 2]] ∧ rows = [rdr nl c q, .tree 28 1 none none ((X.abs).map ints), .tree 28 1 none none ((X.real).map ints)]) := by
 refine sat_entry_G (rs := [(2, some (25, 3))]) Try.func97 rfl rfl (Nat.le_of_ble_eq_true rfl) (Nat.le_of_ble_eq_true rfl) (resTs1 ⟨_, _, Try.underlying25, rfl, inf25, sz25⟩) fun C hC => ?_
 rw [Try.ntmps97]
 replace hC : C.nb = 1 := hC
 refine vc_seq fun K1 hK1 => ?_
 refine vc_region ?_
 refine vo_alloc Z25 rfl ?_
 refine vo_stM ?_
 refine vo_nil ?_
 refine hK1 _ ?_
 refine vc_seq fun K2 hK2 => ?_
 refine vc_region ?_
 refine vo_move_ptr rfl rfl ?_
 refine vo_call [0] Try.func131 rfl rfl rfl rfl rfl rfl rfl (goodBasesX_sat hc (by omega)) ?_
 rintro _ _ ⟨B, q0, f0, nl0, ⟨hB1, hB2, hB3, hB4⟩, rfl, rfl⟩
 refine ⟨Nat.le_of_ble_eq_true rfl, ⟨rfl, rfl, rfl, rfl⟩, .inl rfl, ?_⟩
 refine vo_stM ?_
 refine vo_weaken 9 rfl ?_
 refine vo_stM ?_
 refine vo_buildG S25n rfl rfl rfl ?_
 refine vo_stM ?_
 refine vo_alloc Z25 rfl ?_
 refine vo_stM ?_
 refine vo_store_varG rfl rfl rfl rfl inf25 sz25 rfl ?_
 refine vo_stM ?_
 refine vo_nil ?_
 refine hK2 _ ?_
 refine vc_seq fun K3 hK3 => ?_
 refine vc_seq fun K4 hK4 => ?_
 refine vc_region ?_
 refine vo_assign_pv rfl rfl ?_
 refine vo_nil ?_
 refine hK4 _ ?_
 refine vc_block ?_
 refine vc_own_cell 2 1 E23 rfl rfl ?_
 refine vc_stM ?_
 refine vc_totree 3 rfl ((by intro x hx; cases hx)) ?_
 refine vc_stM ?_
 refine vc_weaktree 3 rfl ?_
 refine vc_stM ?_
 refine vc_own_cell 2 2 E23 rfl rfl ?_
 refine vc_stM ?_
 refine vc_totree 4 rfl ((by intro x hx; cases hx)) ?_
 refine vc_stM ?_
 refine vc_weaktree 4 rfl ?_
 refine vc_stM ?_
 refine vc_stM ?_
 refine vc_loopE [0, 2, 3] [4] [0, 3, 4] _ _ (fun mz vs rs => ∃ (k : Nat) (A : List (List Int)) (R : List (List Int)) (q : Nat), mz = B.length - k ∧ ((k ≤ B.length ∧ A.length = k ∧ R.length = k ∧ q ≤ q0 + 6 * k)) ∧ ((∀ l ∈ A, l.length ≤ 5)) ∧ ((∀ l ∈ R, l.length ≤ 5)) ∧ vs = [i64 k] ∧ rs = [rdr nl c q, Row.tree 28 1 none none (A.map ints), Row.tree 28 1 none none (R.map ints)]) (B.length) rfl rfl (le_len hC rfl) ⟨rfl, rfl, rfl⟩ rfl ⟨0, [], [], q0, rfl, (by simp), (by simp), (by simp), rfl, rfl⟩ ?_
 rintro mz vs rs - - ⟨k, A, R, q, rfl, hk, hA, hR, rfl, rfl⟩
 refine vc_stM ?_
 refine vc_seq fun K5 hK5 => ?_
 refine vc_seq fun K6 hK6 => ?_
 refine vc_region ?_
 refine vo_move_pv rfl rfl ?_
 refine vo_fieldAddr_ptr rfl rfl Try.underlying25 rfl inf23 (by rw [sz23]; decide) ?_
 try simp only [Nat.zero_add]
 refine vo_load_var rfl rfl rfl Try.underlying23 rfl rfl ?_
 refine vo_len_pv rfl rfl Try.underlying23 ?_
 refine vo_binI rfl rfl rfl rfl trivial ?_
 refine vo_nil ?_
 refine hK6 _ ?_
 refine vc_cond rfl (fun hc1 => ?_) (fun hc1 => ?_)
 ·try simp only [zq0, zq1, zq2, zq3, zq4, zq5, zq6, zq7, zq8, zq9, zqa, zqb, zqc, zqd, zqe, zqf] at hc1
  refine vc_skip ?_
  refine hK5 _ ?_
  refine vc_seq fun K7 hK7 => ?_
  refine vc_block ?_
  refine vc_seq fun K8 hK8 => ?_
  refine vc_region ?_
  refine vo_buildSlice E28 rfl rfl rfl rfl rfl ?_
  refine vo_stM ?_
  refine vo_assign_ref rfl rfl ?_
  refine vo_nil ?_
  refine hK8 _ ?_
  refine vc_seq fun K9 hK9 => ?_
  refine vc_region ?_
  refine vo_buildSlice E28 rfl rfl rfl rfl rfl ?_
  refine vo_stM ?_
  refine vo_assign_ref rfl rfl ?_
  refine vo_nil ?_
  refine hK9 _ ?_
  refine vc_seq fun K10 hK10 => ?_
  refine vc_seq fun K11 hK11 => ?_
  refine vc_region ?_
  refine vo_assign_pv rfl rfl ?_
  refine vo_nil ?_
  refine hK11 _ ?_
  refine vc_block ?_
  refine vc_stM ?_
  refine vc_loopE [0, 2, 3, 4] [5, 6, 7] [0, 5, 6] _ _ (fun mz vs rs => ∃ (n : Nat) (a : List Int) (b : List Int) (q2 : Nat), mz = 5 - n ∧ ((n ≤ 5 ∧ a.length ≤ n ∧ b.length ≤ n ∧ q2 = q + n)) ∧ vs = [.ref 5, .ref 6, i64 n] ∧ rs = [rdr nl c q2, Row.own 3 1 (some false) true ((a).map intP), Row.own 3 1 (some false) true ((b).map intP)]) (5) rfl rfl (le_len hC rfl) ⟨rfl, rfl, rfl⟩ rfl ⟨0, [], [], q, rfl, (by simp), rfl, rfl⟩ ?_
  rintro mz vs rs - - ⟨n, a, b, q2, rfl, hn, rfl, rfl⟩
  refine vc_stM ?_
  refine vc_seq fun K12 hK12 => ?_
  refine vc_seq fun K13 hK13 => ?_
  refine vc_region ?_
  refine vo_move_pv rfl rfl ?_
  refine vo_binI rfl rfl rfl rfl trivial ?_
  refine vo_nil ?_
  refine hK13 _ ?_
  refine vc_cond rfl (fun hc2 => ?_) (fun hc2 => ?_)
  ·try simp only [zq0, zq1, zq2, zq3, zq4, zq5, zq6, zq7, zq8, zq9, zqa, zqb, zqc, zqd, zqe, zqf] at hc2
   refine vc_skip ?_
   refine hK12 _ ?_
   refine vc_seq fun K14 hK14 => ?_
   refine vc_block ?_
   refine vc_seq fun K15 hK15 => ?_
   refine vc_region ?_
   refine vo_move_ptr rfl rfl ?_
   refine vo_call [0] Try.func74 rfl rfl rfl rfl rfl rfl rfl (pick_sat hc (by omega)) ?_
   rintro _ _ ⟨x25, ⟨hx250, hx251⟩, rfl, rfl⟩
   refine ⟨Nat.le_of_ble_eq_true rfl, ⟨rfl, rfl, rfl, rfl⟩, .inl rfl, ?_⟩
   refine vo_stM ?_
   refine vo_nil ?_
   refine hK15 _ ?_
   refine vc_block ?_
   refine vc_seq fun K16 hK16 => ?_
   refine vc_region ?_
   refine vo_binI rfl rfl rfl rfl trivial ?_
   refine vo_assign_pv rfl rfl ?_
   refine vo_nil ?_
   refine hK16 _ ?_
   refine vc_cond rfl (fun hc3 => ?_) (fun hc3 => ?_)
   ·try simp only [zq0, zq1, zq2, zq3, zq4, zq5, zq6, zq7, zq8, zq9, zqa, zqb, zqc, zqd, zqe, zqf] at hc3
    refine vc_region ?_
    refine vo_move_ref rfl rfl ?_
    refine vo_move_pv rfl rfl ?_
    refine vo_buildSlice E28 rfl rfl rfl rfl rfl ?_
    refine vo_stM ?_
    refine vo_append E28 rfl (by omega) rfl rfl rfl sd sd ?_
    refine vo_stM ?_
    try simp only [app_ints, app_intss, app_bools, app_intss, List.nil_append]
    refine vo_assign_ref rfl rfl ?_
    refine vo_nil ?_
    refine hK14 _ ?_
    refine vc_region ?_
    refine vo_move_pv rfl rfl ?_
    refine vo_binI rfl rfl rfl rfl sd ?_
    refine vo_assign_pv rfl rfl ?_
    refine vo_nil ?_
    change againE _ _ _ _ _ _ _ _ _ _
    refine againE_mk rfl rfl rfl rfl rfl rfl ⟨_, ?_, n + 1, a ++ [_], b, _, rfl, ?_, rfl, rfl⟩
    ·omega
    ·rw [List.length_append, List.length_singleton]; omega
   ·try simp only [zq0, zq1, zq2, zq3, zq4, zq5, zq6, zq7, zq8, zq9, zqa, zqb, zqc, zqd, zqe, zqf] at hc3
    refine vc_seq fun K17 hK17 => ?_
    refine vc_region ?_
    refine vo_binI rfl rfl rfl rfl trivial ?_
    refine vo_assign_pv rfl rfl ?_
    refine vo_nil ?_
    refine hK17 _ ?_
    refine vc_cond rfl (fun hc4 => ?_) (fun hc4 => ?_)
    ·try simp only [zq0, zq1, zq2, zq3, zq4, zq5, zq6, zq7, zq8, zq9, zqa, zqb, zqc, zqd, zqe, zqf] at hc4
     refine vc_region ?_
     refine vo_move_ref rfl rfl ?_
     refine vo_move_pv rfl rfl ?_
     refine vo_buildSlice E28 rfl rfl rfl rfl rfl ?_
     refine vo_stM ?_
     refine vo_append E28 rfl (by omega) rfl rfl rfl sd sd ?_
     refine vo_stM ?_
     try simp only [app_ints, app_intss, app_bools, app_intss, List.nil_append]
     refine vo_assign_ref rfl rfl ?_
     refine vo_nil ?_
     refine hK14 _ ?_
     refine vc_region ?_
     refine vo_move_pv rfl rfl ?_
     refine vo_binI rfl rfl rfl rfl sd ?_
     refine vo_assign_pv rfl rfl ?_
     refine vo_nil ?_
     change againE _ _ _ _ _ _ _ _ _ _
     refine againE_mk rfl rfl rfl rfl rfl rfl ⟨_, ?_, n + 1, a, b ++ [_], _, rfl, ?_, rfl, rfl⟩
     ·omega
     ·rw [List.length_append, List.length_singleton]; omega
    ·try simp only [zq0, zq1, zq2, zq3, zq4, zq5, zq6, zq7, zq8, zq9, zqa, zqb, zqc, zqd, zqe, zqf] at hc4
     refine vc_skip ?_
     refine hK14 _ ?_
     refine vc_region ?_
     refine vo_move_pv rfl rfl ?_
     refine vo_binI rfl rfl rfl rfl sd ?_
     refine vo_assign_pv rfl rfl ?_
     refine vo_nil ?_
     change againE _ _ _ _ _ _ _ _ _ _
     refine againE_mk rfl rfl rfl rfl rfl rfl ⟨_, ?_, n + 1, a, b, _, rfl, ?_, rfl, rfl⟩
     ·omega
     ·omega
  ·try simp only [zq0, zq1, zq2, zq3, zq4, zq5, zq6, zq7, zq8, zq9, zqa, zqb, zqc, zqd, zqe, zqf] at hc2
   refine vc_exit ?_
   refine hK10 _ ?_
   refine vc_seq fun K18 hK18 => ?_
   refine vc_region ?_
   refine vo_fieldAddr_ptr rfl rfl Try.underlying25 rfl inf23 (by rw [sz23]; decide) ?_
   try simp only [Nat.zero_add]
   refine vo_load_var rfl rfl rfl Try.underlying23 rfl rfl ?_
   refine vo_move_ref rfl rfl ?_
   refine vo_totree 5 rfl (plain_ints _) ?_
   refine vo_stM ?_
   refine vo_weaktree 5 rfl ?_
   refine vo_stM ?_
   refine vo_build_treeG (p := .sl _ _ _) E23 rfl rfl rfl rfl rfl rfl rfl hC rfl (by first | decide | simp [refsOf]) ?_
   refine vo_stM ?_
   refine vo_append_treeG E23 rfl (by omega) (by omega) rfl rfl rfl rfl rfl sd sd sd ?_
   refine vo_stM ?_
   try simp only [app_ints, app_intss, app_bools, app_intss, List.nil_append]
   refine vo_fieldAddr_ptr rfl rfl Try.underlying25 rfl inf23 (by rw [sz23]; decide) ?_
   try simp only [Nat.zero_add]
   refine vo_store_varG rfl rfl rfl rfl inf23 sz23 rfl ?_
   refine vo_stM ?_
   refine vo_nil ?_
   refine hK18 _ ?_
   refine vc_region ?_
   refine vo_fieldAddr_ptr rfl rfl Try.underlying25 rfl inf23 (by rw [sz23]; decide) ?_
   try simp only [Nat.zero_add]
   refine vo_load_var rfl rfl rfl Try.underlying23 rfl rfl ?_
   refine vo_move_ref rfl rfl ?_
   refine vo_totree 6 rfl (plain_ints _) ?_
   refine vo_stM ?_
   refine vo_weaktree 6 rfl ?_
   refine vo_stM ?_
   refine vo_build_treeG (p := .sl _ _ _) E23 rfl rfl rfl rfl rfl rfl rfl hC rfl (by first | decide | simp [refsOf]) ?_
   refine vo_stM ?_
   refine vo_append_treeG E23 rfl (by omega) (by omega) rfl rfl rfl rfl rfl sd sd sd ?_
   refine vo_stM ?_
   try simp only [app_ints, app_intss, app_bools, app_intss, List.nil_append]
   refine vo_fieldAddr_ptr rfl rfl Try.underlying25 rfl inf23 (by rw [sz23]; decide) ?_
   try simp only [Nat.zero_add]
   refine vo_store_varG rfl rfl rfl rfl inf23 sz23 rfl ?_
   refine vo_stM ?_
   refine vo_nil ?_
   refine hK7 _ ?_
   refine vc_region ?_
   refine vo_move_pv rfl rfl ?_
   refine vo_binI rfl rfl rfl rfl sd ?_
   refine vo_assign_pv rfl rfl ?_
   refine vo_nil ?_
   change againE _ _ _ _ _ _ _ _ _ _
   refine againE_mk rfl rfl rfl rfl rfl rfl ⟨_, ?_, k + 1, A ++ [a], R ++ [b], q2, rfl, ?_, ?_, ?_, rfl, rfl⟩
   ·omega
   ·refine ⟨by omega, ?_, ?_, by omega⟩ <;> rw [List.length_append, List.length_singleton] <;> omega
   ·exact appX_all hA (by omega)
   ·exact appX_all hR (by omega)
 ·try simp only [zq0, zq1, zq2, zq3, zq4, zq5, zq6, zq7, zq8, zq9, zqa, zqb, zqc, zqd, zqe, zqf] at hc1
  refine vc_exit ?_
  refine hK3 _ ?_
  refine vc_seq fun K19 hK19 => ?_
  refine vc_region ?_
  refine vo_load_varG rfl rfl rfl Try.underlying25 rfl inf25 sz25 rfl ?_
  refine vo_stM ?_
  refine vo_store_varG rfl rfl rfl rfl inf25 sz25 rfl ?_
  refine vo_stM ?_
  refine vo_nil ?_
  refine hK19 _ ?_
  refine vc_ret ?_
  change retQ _ _ _ _ _
  refine retQ_sel [3, 4] (srows := [_, _]) (.inr rfl) hC rfl rfl rfl rfl rfl rfl rfl ?_
  exact ⟨⟨B, A, R⟩, _, _, ⟨⟨⟨by omega, by omega, hB3⟩, ⟨by show A.length = B.length; omega, hA⟩, by show R.length = B.length; omega, hR⟩, by omega⟩, rfl, rfl⟩

set_option maxHeartbeats 4000000 in
theorem anyWorks_sat {nl : Option Bool} {c : List (Fin 256)} {p : Nat} (hc : c.length ≤ 2000) (hp : p < 989000) : SatAt Try.prog 55 [.ptr 0 0 0 0] [rdr nl c p] (fun res rows => ∃ (X : WorksM) (q : Nat) (f : Bool), (medX X ∧ q ≤ p + 220) ∧ res = [.ag [.pv f (.sl none 1 (X.bases.map ints)), .ref 1, .ref 2]] ∧ rows = [rdr nl c q, .tree 28 1 none none ((X.abs).map ints), .tree 28 1 none none ((X.real).map ints)]) := by
 refine sat_entry_G (rs := [(2, some (25, 3))]) Try.func55 rfl rfl (Nat.le_of_ble_eq_true rfl) (Nat.le_of_ble_eq_true rfl) (resTs1 ⟨_, _, Try.underlying25, rfl, inf25, sz25⟩) fun C hC => ?_
 rw [Try.ntmps55]
 replace hC : C.nb = 1 := hC
 refine vc_seq fun K1 hK1 => ?_
 refine vc_region ?_
 refine vo_alloc Z25 rfl ?_
 refine vo_stM ?_
 refine vo_nil ?_
 refine hK1 _ ?_
 refine vc_seq fun K2 hK2 => ?_
 refine vc_region ?_
 refine vo_move_ptr rfl rfl ?_
 refine vo_call [0] Try.func97 rfl rfl rfl rfl rfl rfl rfl (someWorks_sat hc (by omega)) ?_
 rintro _ _ ⟨X, q, f, ⟨⟨⟨hb1, hb2, hb3⟩, ⟨ha1, ha2⟩, hr1, hr2⟩, hq⟩, rfl, rfl⟩
 refine ⟨Nat.le_of_ble_eq_true rfl, ⟨rfl, rfl, rfl, rfl⟩, .inl rfl, ?_⟩
 refine vo_stM ?_
 refine vo_alloc Z25 rfl ?_
 refine vo_stM ?_
 refine vo_store_varG rfl rfl rfl rfl inf25 sz25 rfl ?_
 refine vo_stM ?_
 refine vo_nil ?_
 refine hK2 _ ?_
 refine vc_seq fun K3 hK3 => ?_
 refine vc_region ?_
 refine vo_move_ptr rfl rfl ?_
 refine vo_fieldAddr_ptr rfl rfl Try.underlying25 rfl inf23 (by rw [sz23]; decide) ?_
 try simp only [Nat.zero_add]
 refine vo_load_var rfl rfl rfl Try.underlying23 rfl rfl ?_
 refine vo_len_pv rfl rfl Try.underlying23 ?_
 refine vo_call [0] Try.func74 rfl rfl rfl rfl rfl rfl rfl (pick_sat hc (by omega)) ?_
 rintro _ _ ⟨x11, ⟨hx110, hx111⟩, rfl, rfl⟩
 refine ⟨Nat.le_of_ble_eq_true rfl, ⟨rfl, rfl, rfl, rfl⟩, .inl rfl, ?_⟩
 refine vo_stM ?_
 simp only [List.length_map] at hx111
 refine vo_assign_pv rfl rfl ?_
 refine vo_nil ?_
 refine hK3 _ ?_
 refine vc_seq fun K4 hK4 => ?_
 refine vc_seq fun K5 hK5 => ?_
 refine vc_region ?_
 refine vo_move_ptr rfl rfl ?_
 refine vo_call [0] Try.func74 rfl rfl rfl rfl rfl rfl rfl (pick_sat hc (by omega)) ?_
 rintro _ _ ⟨x13, ⟨hx130, hx131⟩, rfl, rfl⟩
 refine ⟨Nat.le_of_ble_eq_true rfl, ⟨rfl, rfl, rfl, rfl⟩, .inl rfl, ?_⟩
 refine vo_stM ?_
 refine vo_nil ?_
 refine hK5 _ ?_
 refine vc_block ?_
 refine vc_seq fun K6 hK6 => ?_
 refine vc_region ?_
 refine vo_binI rfl rfl rfl rfl trivial ?_
 refine vo_assign_pv rfl rfl ?_
 refine vo_nil ?_
 refine hK6 _ ?_
 refine vc_cond rfl (fun hc1 => ?_) (fun hc1 => ?_)
 ·try simp only [zq0, zq1, zq2, zq3, zq4, zq5, zq6, zq7, zq8, zq9, zqa, zqb, zqc, zqd, zqe, zqf] at hc1
  have hrk := getD_all (p := fun l : List Int => l.length ≤ 5) hr2 [] (by simp) x11.toNat
  refine vc_drawB [9, 11] (by kernel_rfl) ?_
  change VLB [9, 11] _ _ _ 12 _ _ _
  refine vb_light0 0 rfl rfl rfl (by kernel_rfl) (by kernel_rfl) (by kernel_rfl) (wnt_none rfl) (l0_fieldAddr_ptr rfl Try.underlying25 rfl inf23 (by rw [sz23]; decide)) ?_
  try simp only [Nat.zero_add]
  refine vb_light0 2 rfl rfl rfl (by kernel_rfl) (by kernel_rfl) (by kernel_rfl) (wnt_none rfl) (l0_move_pv rfl) ?_
  refine vb_light0 3 rfl rfl rfl (by kernel_rfl) (by kernel_rfl) (by kernel_rfl) (wnt_none rfl) (l0_fieldAddr_ptr rfl Try.underlying25 rfl inf23 (by rw [sz23]; decide)) ?_
  try simp only [Nat.zero_add]
  refine vb_light 4 [0, 1, 2, 3, 5, 8] rfl rfl rfl (by kernel_rfl) (by kernel_rfl) (by kernel_rfl) (by kernel_rfl) (by kernel_rfl) (wnt_none rfl) (lb_load_var hC rfl rfl rfl rfl Try.underlying23 rfl rfl) ?_
  refine vb_light0 5 rfl rfl rfl (by kernel_rfl) (by kernel_rfl) (by kernel_rfl) (wnt_none rfl) (l0_move_pv rfl) ?_
  refine vb_light0 6 rfl rfl rfl (by kernel_rfl) (by kernel_rfl) (by kernel_rfl) (wnt_none rfl) (l0_index_ref rfl rfl rfl E23.und inf28 sz28 sd sd) ?_
  try simp only [Int.toNat_natCast]
  refine vb_any3 1 7 8 (by kernel_rfl) ?_ ?_ ?_
  ·refine sb_light 1 rfl rfl rfl (wnt_none rfl) (lb_load_var hC rfl rfl rfl rfl Try.underlying23 rfl rfl) ?_
   refine vb_any2 7 8 (by kernel_rfl) ?_ ?_
   ·refine sb_extE 7 rfl (fun _ => rfl) (xt_load_take1 rfl rfl (by omega) Try.underlying28 rfl (getP (L := X.real) [] (by omega))) fun Rf23 => ?_
    refine vb_stM ?_
    refine vb_treeown 5 (by omega) rfl ?_
    refine vb_stM ?_
    refine vb_ext 8 rfl (by kernel_rfl) rfl (xt_buildSlice E28 rfl rfl rfl rfl) ?_
    refine vb_stM ?_
    refine vb_one 9 rfl (by kernel_rfl) rfl ?_
    refine vo_appendU E28 rfl (by omega) rfl rfl rfl sd sd fun Rt6 => ?_
    refine vo_stM ?_
    try simp only [app_ints, app_intss, app_bools, appX_two]
    refine vo_done ⟨rfl, ?_⟩
    refine vb_light0 10 rfl rfl rfl (by kernel_rfl) (by kernel_rfl) (by kernel_rfl) (wnt_none rfl) (l0_index_ref rfl rfl rfl E23.und inf28 sz28 sd sd) ?_
    try simp only [Int.toNat_natCast]
    refine vb_one 11 rfl (by kernel_rfl) rfl ?_
    refine vo_totree 5 rfl (plain_ints _) ?_
    refine vo_stM ?_
    refine vo_weaktree 5 rfl ?_
    refine vo_stM ?_
    refine vo_put (p := .sl _ _ _) rfl rfl rfl rfl rfl rfl rfl hC rfl (by first | decide | (simp [refsOf]; done) | (simp [refsOf, SV.shift1, placeOf]; done)) inf28 sz28 sd ?_
    refine vo_stM ?_
    try simp only [List.set_set, set_intss]
    refine vo_done ⟨rfl, ?_⟩
    refine vb_nil (by kernel_rfl) ?_
    refine hK4 _ ?_
    refine vc_seq fun K7 hK7 => ?_
    refine vc_region ?_
    refine vo_load_varG rfl rfl rfl Try.underlying25 rfl inf25 sz25 rfl ?_
    refine vo_stM ?_
    refine vo_store_varG rfl rfl rfl rfl inf25 sz25 rfl ?_
    refine vo_stM ?_
    refine vo_nil ?_
    refine hK7 _ ?_
    refine vc_ret ?_
    change retQ _ _ _ _ _
    refine retQ_sel [2, 3] (srows := [_, _]) (.inr rfl) hC rfl rfl rfl rfl rfl rfl rfl ?_
    have hM := fun y => medX_of ⟨hb1, hb2, hb3⟩ ha1 ha2 hr1 hr2 x11.toNat y
    first
     | exact ⟨_, _, _, ⟨(hM y39).2.1, by omega⟩, rfl, rfl⟩
     | exact ⟨_, _, _, ⟨(hM 0).1, by omega⟩, rfl, rfl⟩
     | exact ⟨_, _, _, ⟨(hM 0).2.2, by omega⟩, rfl, rfl⟩
   ·refine sb_ext 8 rfl rfl (xt_buildSlice E28 rfl rfl rfl rfl) ?_
    refine vb_stM ?_
    refine vb_any1 7 (by kernel_rfl) ?_
    refine sb_extE 7 rfl (fun _ => rfl) (xt_load_take1 rfl rfl (by omega) Try.underlying28 rfl (getP (L := X.real) [] (by omega))) fun Rf23 => ?_
    refine vb_stM ?_
    refine vb_treeown 6 (by omega) rfl ?_
    refine vb_stM ?_
    refine vb_one 9 rfl (by kernel_rfl) rfl ?_
    refine vo_appendU E28 rfl (by omega) rfl rfl rfl sd sd fun Rt7 => ?_
    refine vo_stM ?_
    try simp only [app_ints, app_intss, app_bools, appX_two]
    refine vo_done ⟨rfl, ?_⟩
    refine vb_light0 10 rfl rfl rfl (by kernel_rfl) (by kernel_rfl) (by kernel_rfl) (wnt_none rfl) (l0_index_ref rfl rfl rfl E23.und inf28 sz28 sd sd) ?_
    try simp only [Int.toNat_natCast]
    refine vb_one 11 rfl (by kernel_rfl) rfl ?_
    refine vo_totree 6 rfl (plain_ints _) ?_
    refine vo_stM ?_
    refine vo_weaktree 6 rfl ?_
    refine vo_stM ?_
    refine vo_put (p := .sl _ _ _) rfl rfl rfl rfl rfl rfl rfl hC rfl (by first | decide | (simp [refsOf]; done) | (simp [refsOf, SV.shift1, placeOf]; done)) inf28 sz28 sd ?_
    refine vo_stM ?_
    try simp only [List.set_set, set_intss]
    refine vo_done ⟨rfl, ?_⟩
    refine vb_nil (by kernel_rfl) ?_
    refine hK4 _ ?_
    refine vc_seq fun K8 hK8 => ?_
    refine vc_region ?_
    refine vo_load_varG rfl rfl rfl Try.underlying25 rfl inf25 sz25 rfl ?_
    refine vo_stM ?_
    refine vo_store_varG rfl rfl rfl rfl inf25 sz25 rfl ?_
    refine vo_stM ?_
    refine vo_nil ?_
    refine hK8 _ ?_
    refine vc_ret ?_
    change retQ _ _ _ _ _
    refine retQ_sel [2, 3] (srows := [_, _]) (.inr rfl) hC rfl rfl rfl rfl rfl rfl rfl ?_
    have hM := fun y => medX_of ⟨hb1, hb2, hb3⟩ ha1 ha2 hr1 hr2 x11.toNat y
    first
     | exact ⟨_, _, _, ⟨(hM y39).2.1, by omega⟩, rfl, rfl⟩
     | exact ⟨_, _, _, ⟨(hM 0).1, by omega⟩, rfl, rfl⟩
     | exact ⟨_, _, _, ⟨(hM 0).2.2, by omega⟩, rfl, rfl⟩
  ·refine sb_extE 7 rfl (fun _ => rfl) (xt_load_take1 rfl rfl (by omega) Try.underlying28 rfl (getP (L := X.real) [] (by omega))) fun Rf23 => ?_
   refine vb_stM ?_
   refine vb_treeown 5 (by omega) rfl ?_
   refine vb_stM ?_
   refine vb_any2 1 8 (by kernel_rfl) ?_ ?_
   ·refine sb_light 1 rfl rfl rfl (wnt_none rfl) (lb_load_var hC rfl rfl rfl rfl Try.underlying23 rfl rfl) ?_
    refine vb_ext 8 rfl (by kernel_rfl) rfl (xt_buildSlice E28 rfl rfl rfl rfl) ?_
    refine vb_stM ?_
    refine vb_one 9 rfl (by kernel_rfl) rfl ?_
    refine vo_appendU E28 rfl (by omega) rfl rfl rfl sd sd fun Rt8 => ?_
    refine vo_stM ?_
    try simp only [app_ints, app_intss, app_bools, appX_two]
    refine vo_done ⟨rfl, ?_⟩
    refine vb_light0 10 rfl rfl rfl (by kernel_rfl) (by kernel_rfl) (by kernel_rfl) (wnt_none rfl) (l0_index_ref rfl rfl rfl E23.und inf28 sz28 sd sd) ?_
    try simp only [Int.toNat_natCast]
    refine vb_one 11 rfl (by kernel_rfl) rfl ?_
    refine vo_totree 5 rfl (plain_ints _) ?_
    refine vo_stM ?_
    refine vo_weaktree 5 rfl ?_
    refine vo_stM ?_
    refine vo_put (p := .sl _ _ _) rfl rfl rfl rfl rfl rfl rfl hC rfl (by first | decide | (simp [refsOf]; done) | (simp [refsOf, SV.shift1, placeOf]; done)) inf28 sz28 sd ?_
    refine vo_stM ?_
    try simp only [List.set_set, set_intss]
    refine vo_done ⟨rfl, ?_⟩
    refine vb_nil (by kernel_rfl) ?_
    refine hK4 _ ?_
    refine vc_seq fun K9 hK9 => ?_
    refine vc_region ?_
    refine vo_load_varG rfl rfl rfl Try.underlying25 rfl inf25 sz25 rfl ?_
    refine vo_stM ?_
    refine vo_store_varG rfl rfl rfl rfl inf25 sz25 rfl ?_
    refine vo_stM ?_
    refine vo_nil ?_
    refine hK9 _ ?_
    refine vc_ret ?_
    change retQ _ _ _ _ _
    refine retQ_sel [2, 3] (srows := [_, _]) (.inr rfl) hC rfl rfl rfl rfl rfl rfl rfl ?_
    have hM := fun y => medX_of ⟨hb1, hb2, hb3⟩ ha1 ha2 hr1 hr2 x11.toNat y
    first
     | exact ⟨_, _, _, ⟨(hM y39).2.1, by omega⟩, rfl, rfl⟩
     | exact ⟨_, _, _, ⟨(hM 0).1, by omega⟩, rfl, rfl⟩
     | exact ⟨_, _, _, ⟨(hM 0).2.2, by omega⟩, rfl, rfl⟩
   ·refine sb_ext 8 rfl rfl (xt_buildSlice E28 rfl rfl rfl rfl) ?_
    refine vb_stM ?_
    refine vb_any2 1 9 (by kernel_rfl) ?_ ?_
    ·refine sb_light 1 rfl rfl rfl (wnt_none rfl) (lb_load_var hC rfl rfl rfl rfl Try.underlying23 rfl rfl) ?_
     refine vb_one 9 rfl (by kernel_rfl) rfl ?_
     refine vo_appendU E28 rfl (by omega) rfl rfl rfl sd sd fun Rt9 => ?_
     refine vo_stM ?_
     try simp only [app_ints, app_intss, app_bools, appX_two]
     refine vo_done ⟨rfl, ?_⟩
     refine vb_light0 10 rfl rfl rfl (by kernel_rfl) (by kernel_rfl) (by kernel_rfl) (wnt_none rfl) (l0_index_ref rfl rfl rfl E23.und inf28 sz28 sd sd) ?_
     try simp only [Int.toNat_natCast]
     refine vb_one 11 rfl (by kernel_rfl) rfl ?_
     refine vo_totree 5 rfl (plain_ints _) ?_
     refine vo_stM ?_
     refine vo_weaktree 5 rfl ?_
     refine vo_stM ?_
     refine vo_put (p := .sl _ _ _) rfl rfl rfl rfl rfl rfl rfl hC rfl (by first | decide | (simp [refsOf]; done) | (simp [refsOf, SV.shift1, placeOf]; done)) inf28 sz28 sd ?_
     refine vo_stM ?_
     try simp only [List.set_set, set_intss]
     refine vo_done ⟨rfl, ?_⟩
     refine vb_nil (by kernel_rfl) ?_
     refine hK4 _ ?_
     refine vc_seq fun K10 hK10 => ?_
     refine vc_region ?_
     refine vo_load_varG rfl rfl rfl Try.underlying25 rfl inf25 sz25 rfl ?_
     refine vo_stM ?_
     refine vo_store_varG rfl rfl rfl rfl inf25 sz25 rfl ?_
     refine vo_stM ?_
     refine vo_nil ?_
     refine hK10 _ ?_
     refine vc_ret ?_
     change retQ _ _ _ _ _
     refine retQ_sel [2, 3] (srows := [_, _]) (.inr rfl) hC rfl rfl rfl rfl rfl rfl rfl ?_
     have hM := fun y => medX_of ⟨hb1, hb2, hb3⟩ ha1 ha2 hr1 hr2 x11.toNat y
     first
      | exact ⟨_, _, _, ⟨(hM y39).2.1, by omega⟩, rfl, rfl⟩
      | exact ⟨_, _, _, ⟨(hM 0).1, by omega⟩, rfl, rfl⟩
      | exact ⟨_, _, _, ⟨(hM 0).2.2, by omega⟩, rfl, rfl⟩
    ·refine sb_one 9 rfl (by kernel_rfl) ?_
     refine vo_appendU E28 rfl (by omega) rfl rfl rfl sd sd fun Rt10 => ?_
     refine vo_stM ?_
     try simp only [app_ints, app_intss, app_bools, appX_two]
     refine vo_done ⟨rfl, ?_⟩
     refine vb_any1 1 (by kernel_rfl) ?_
     refine sb_light 1 rfl rfl rfl (wnt_none rfl) (lb_load_var hC rfl rfl rfl rfl Try.underlying23 rfl rfl) ?_
     refine vb_light0 10 rfl rfl rfl (by kernel_rfl) (by kernel_rfl) (by kernel_rfl) (wnt_none rfl) (l0_index_ref rfl rfl rfl E23.und inf28 sz28 sd sd) ?_
     try simp only [Int.toNat_natCast]
     refine vb_one 11 rfl (by kernel_rfl) rfl ?_
     refine vo_totree 5 rfl (plain_ints _) ?_
     refine vo_stM ?_
     refine vo_weaktree 5 rfl ?_
     refine vo_stM ?_
     refine vo_put (p := .sl _ _ _) rfl rfl rfl rfl rfl rfl rfl hC rfl (by first | decide | (simp [refsOf]; done) | (simp [refsOf, SV.shift1, placeOf]; done)) inf28 sz28 sd ?_
     refine vo_stM ?_
     try simp only [List.set_set, set_intss]
     refine vo_done ⟨rfl, ?_⟩
     refine vb_nil (by kernel_rfl) ?_
     refine hK4 _ ?_
     refine vc_seq fun K11 hK11 => ?_
     refine vc_region ?_
     refine vo_load_varG rfl rfl rfl Try.underlying25 rfl inf25 sz25 rfl ?_
     refine vo_stM ?_
     refine vo_store_varG rfl rfl rfl rfl inf25 sz25 rfl ?_
     refine vo_stM ?_
     refine vo_nil ?_
     refine hK11 _ ?_
     refine vc_ret ?_
     change retQ _ _ _ _ _
     refine retQ_sel [2, 3] (srows := [_, _]) (.inr rfl) hC rfl rfl rfl rfl rfl rfl rfl ?_
     have hM := fun y => medX_of ⟨hb1, hb2, hb3⟩ ha1 ha2 hr1 hr2 x11.toNat y
     first
      | exact ⟨_, _, _, ⟨(hM y39).2.1, by omega⟩, rfl, rfl⟩
      | exact ⟨_, _, _, ⟨(hM 0).1, by omega⟩, rfl, rfl⟩
      | exact ⟨_, _, _, ⟨(hM 0).2.2, by omega⟩, rfl, rfl⟩
  ·refine sb_ext 8 rfl rfl (xt_buildSlice E28 rfl rfl rfl rfl) ?_
   refine vb_stM ?_
   refine vb_any2 1 7 (by kernel_rfl) ?_ ?_
   ·refine sb_light 1 rfl rfl rfl (wnt_none rfl) (lb_load_var hC rfl rfl rfl rfl Try.underlying23 rfl rfl) ?_
    refine vb_any1 7 (by kernel_rfl) ?_
    refine sb_extE 7 rfl (fun _ => rfl) (xt_load_take1 rfl rfl (by omega) Try.underlying28 rfl (getP (L := X.real) [] (by omega))) fun Rf23 => ?_
    refine vb_stM ?_
    refine vb_treeown 6 (by omega) rfl ?_
    refine vb_stM ?_
    refine vb_one 9 rfl (by kernel_rfl) rfl ?_
    refine vo_appendU E28 rfl (by omega) rfl rfl rfl sd sd fun Rt11 => ?_
    refine vo_stM ?_
    try simp only [app_ints, app_intss, app_bools, appX_two]
    refine vo_done ⟨rfl, ?_⟩
    refine vb_light0 10 rfl rfl rfl (by kernel_rfl) (by kernel_rfl) (by kernel_rfl) (wnt_none rfl) (l0_index_ref rfl rfl rfl E23.und inf28 sz28 sd sd) ?_
    try simp only [Int.toNat_natCast]
    refine vb_one 11 rfl (by kernel_rfl) rfl ?_
    refine vo_totree 6 rfl (plain_ints _) ?_
    refine vo_stM ?_
    refine vo_weaktree 6 rfl ?_
    refine vo_stM ?_
    refine vo_put (p := .sl _ _ _) rfl rfl rfl rfl rfl rfl rfl hC rfl (by first | decide | (simp [refsOf]; done) | (simp [refsOf, SV.shift1, placeOf]; done)) inf28 sz28 sd ?_
    refine vo_stM ?_
    try simp only [List.set_set, set_intss]
    refine vo_done ⟨rfl, ?_⟩
    refine vb_nil (by kernel_rfl) ?_
    refine hK4 _ ?_
    refine vc_seq fun K12 hK12 => ?_
    refine vc_region ?_
    refine vo_load_varG rfl rfl rfl Try.underlying25 rfl inf25 sz25 rfl ?_
    refine vo_stM ?_
    refine vo_store_varG rfl rfl rfl rfl inf25 sz25 rfl ?_
    refine vo_stM ?_
    refine vo_nil ?_
    refine hK12 _ ?_
    refine vc_ret ?_
    change retQ _ _ _ _ _
    refine retQ_sel [2, 3] (srows := [_, _]) (.inr rfl) hC rfl rfl rfl rfl rfl rfl rfl ?_
    have hM := fun y => medX_of ⟨hb1, hb2, hb3⟩ ha1 ha2 hr1 hr2 x11.toNat y
    first
     | exact ⟨_, _, _, ⟨(hM y39).2.1, by omega⟩, rfl, rfl⟩
     | exact ⟨_, _, _, ⟨(hM 0).1, by omega⟩, rfl, rfl⟩
     | exact ⟨_, _, _, ⟨(hM 0).2.2, by omega⟩, rfl, rfl⟩
   ·refine sb_extE 7 rfl (fun _ => rfl) (xt_load_take1 rfl rfl (by omega) Try.underlying28 rfl (getP (L := X.real) [] (by omega))) fun Rf23 => ?_
    refine vb_stM ?_
    refine vb_treeown 6 (by omega) rfl ?_
    refine vb_stM ?_
    refine vb_any2 1 9 (by kernel_rfl) ?_ ?_
    ·refine sb_light 1 rfl rfl rfl (wnt_none rfl) (lb_load_var hC rfl rfl rfl rfl Try.underlying23 rfl rfl) ?_
     refine vb_one 9 rfl (by kernel_rfl) rfl ?_
     refine vo_appendU E28 rfl (by omega) rfl rfl rfl sd sd fun Rt12 => ?_
     refine vo_stM ?_
     try simp only [app_ints, app_intss, app_bools, appX_two]
     refine vo_done ⟨rfl, ?_⟩
     refine vb_light0 10 rfl rfl rfl (by kernel_rfl) (by kernel_rfl) (by kernel_rfl) (wnt_none rfl) (l0_index_ref rfl rfl rfl E23.und inf28 sz28 sd sd) ?_
     try simp only [Int.toNat_natCast]
     refine vb_one 11 rfl (by kernel_rfl) rfl ?_
     refine vo_totree 6 rfl (plain_ints _) ?_
     refine vo_stM ?_
     refine vo_weaktree 6 rfl ?_
     refine vo_stM ?_
     refine vo_put (p := .sl _ _ _) rfl rfl rfl rfl rfl rfl rfl hC rfl (by first | decide | (simp [refsOf]; done) | (simp [refsOf, SV.shift1, placeOf]; done)) inf28 sz28 sd ?_
     refine vo_stM ?_
     try simp only [List.set_set, set_intss]
     refine vo_done ⟨rfl, ?_⟩
     refine vb_nil (by kernel_rfl) ?_
     refine hK4 _ ?_
     refine vc_seq fun K13 hK13 => ?_
     refine vc_region ?_
     refine vo_load_varG rfl rfl rfl Try.underlying25 rfl inf25 sz25 rfl ?_
     refine vo_stM ?_
     refine vo_store_varG rfl rfl rfl rfl inf25 sz25 rfl ?_
     refine vo_stM ?_
     refine vo_nil ?_
     refine hK13 _ ?_
     refine vc_ret ?_
     change retQ _ _ _ _ _
     refine retQ_sel [2, 3] (srows := [_, _]) (.inr rfl) hC rfl rfl rfl rfl rfl rfl rfl ?_
     have hM := fun y => medX_of ⟨hb1, hb2, hb3⟩ ha1 ha2 hr1 hr2 x11.toNat y
     first
      | exact ⟨_, _, _, ⟨(hM y39).2.1, by omega⟩, rfl, rfl⟩
      | exact ⟨_, _, _, ⟨(hM 0).1, by omega⟩, rfl, rfl⟩
      | exact ⟨_, _, _, ⟨(hM 0).2.2, by omega⟩, rfl, rfl⟩
    ·refine sb_one 9 rfl (by kernel_rfl) ?_
     refine vo_appendU E28 rfl (by omega) rfl rfl rfl sd sd fun Rt13 => ?_
     refine vo_stM ?_
     try simp only [app_ints, app_intss, app_bools, appX_two]
     refine vo_done ⟨rfl, ?_⟩
     refine vb_any1 1 (by kernel_rfl) ?_
     refine sb_light 1 rfl rfl rfl (wnt_none rfl) (lb_load_var hC rfl rfl rfl rfl Try.underlying23 rfl rfl) ?_
     refine vb_light0 10 rfl rfl rfl (by kernel_rfl) (by kernel_rfl) (by kernel_rfl) (wnt_none rfl) (l0_index_ref rfl rfl rfl E23.und inf28 sz28 sd sd) ?_
     try simp only [Int.toNat_natCast]
     refine vb_one 11 rfl (by kernel_rfl) rfl ?_
     refine vo_totree 6 rfl (plain_ints _) ?_
     refine vo_stM ?_
     refine vo_weaktree 6 rfl ?_
     refine vo_stM ?_
     refine vo_put (p := .sl _ _ _) rfl rfl rfl rfl rfl rfl rfl hC rfl (by first | decide | (simp [refsOf]; done) | (simp [refsOf, SV.shift1, placeOf]; done)) inf28 sz28 sd ?_
     refine vo_stM ?_
     try simp only [List.set_set, set_intss]
     refine vo_done ⟨rfl, ?_⟩
     refine vb_nil (by kernel_rfl) ?_
     refine hK4 _ ?_
     refine vc_seq fun K14 hK14 => ?_
     refine vc_region ?_
     refine vo_load_varG rfl rfl rfl Try.underlying25 rfl inf25 sz25 rfl ?_
     refine vo_stM ?_
     refine vo_store_varG rfl rfl rfl rfl inf25 sz25 rfl ?_
     refine vo_stM ?_
     refine vo_nil ?_
     refine hK14 _ ?_
     refine vc_ret ?_
     change retQ _ _ _ _ _
     refine retQ_sel [2, 3] (srows := [_, _]) (.inr rfl) hC rfl rfl rfl rfl rfl rfl rfl ?_
     have hM := fun y => medX_of ⟨hb1, hb2, hb3⟩ ha1 ha2 hr1 hr2 x11.toNat y
     first
      | exact ⟨_, _, _, ⟨(hM y39).2.1, by omega⟩, rfl, rfl⟩
      | exact ⟨_, _, _, ⟨(hM 0).1, by omega⟩, rfl, rfl⟩
      | exact ⟨_, _, _, ⟨(hM 0).2.2, by omega⟩, rfl, rfl⟩
 ·try simp only [zq0, zq1, zq2, zq3, zq4, zq5, zq6, zq7, zq8, zq9, zqa, zqb, zqc, zqd, zqe, zqf] at hc1
  refine vc_seq fun K15 hK15 => ?_
  refine vc_region ?_
  refine vo_binI rfl rfl rfl rfl trivial ?_
  refine vo_assign_pv rfl rfl ?_
  refine vo_nil ?_
  refine hK15 _ ?_
  refine vc_cond rfl (fun hc2 => ?_) (fun hc2 => ?_)
  ·try simp only [zq0, zq1, zq2, zq3, zq4, zq5, zq6, zq7, zq8, zq9, zqa, zqb, zqc, zqd, zqe, zqf] at hc2
   have hrk := getD_all (p := fun l : List Int => l.length ≤ 5) ha2 [] (by simp) x11.toNat
   refine vc_drawB [12, 14] (by kernel_rfl) ?_
   change VLB [12, 14] _ _ _ 15 _ _ _
   refine vb_light0 0 rfl rfl rfl (by kernel_rfl) (by kernel_rfl) (by kernel_rfl) (wnt_none rfl) (l0_fieldAddr_ptr rfl Try.underlying25 rfl inf23 (by rw [sz23]; decide)) ?_
   try simp only [Nat.zero_add]
   refine vb_light0 2 rfl rfl rfl (by kernel_rfl) (by kernel_rfl) (by kernel_rfl) (wnt_none rfl) (l0_move_pv rfl) ?_
   refine vb_light0 3 rfl rfl rfl (by kernel_rfl) (by kernel_rfl) (by kernel_rfl) (wnt_none rfl) (l0_fieldAddr_ptr rfl Try.underlying25 rfl inf23 (by rw [sz23]; decide)) ?_
   try simp only [Nat.zero_add]
   refine vb_light 4 [0, 1, 2, 3, 5, 8, 9, 10, 11] rfl rfl rfl (by kernel_rfl) (by kernel_rfl) (by kernel_rfl) (by kernel_rfl) (by kernel_rfl) (wnt_none rfl) (lb_load_var hC rfl rfl rfl rfl Try.underlying23 rfl rfl) ?_
   refine vb_light0 5 rfl rfl rfl (by kernel_rfl) (by kernel_rfl) (by kernel_rfl) (wnt_none rfl) (l0_move_pv rfl) ?_
   refine vb_light0 6 rfl rfl rfl (by kernel_rfl) (by kernel_rfl) (by kernel_rfl) (wnt_none rfl) (l0_index_ref rfl rfl rfl E23.und inf28 sz28 sd sd) ?_
   try simp only [Int.toNat_natCast]
   refine vb_light0 8 rfl rfl rfl (by kernel_rfl) (by kernel_rfl) (by kernel_rfl) (wnt_none rfl) (l0_move_ptr rfl) ?_
   refine vb_any3 1 7 9 (by kernel_rfl) ?_ ?_ ?_
   ·refine sb_light 1 rfl rfl rfl (wnt_none rfl) (lb_load_var hC rfl rfl rfl rfl Try.underlying23 rfl rfl) ?_
    refine vb_any2 7 9 (by kernel_rfl) ?_ ?_
    ·refine sb_extE 7 rfl (fun _ => rfl) (xt_load_take1 rfl rfl (by omega) Try.underlying28 rfl (getP (L := X.abs) [] (by omega))) fun Rf36 => ?_
     refine vb_stM ?_
     refine vb_treeown 5 (by omega) rfl ?_
     refine vb_stM ?_
     refine vb_ext 9 rfl (by kernel_rfl) rfl (xt_buildSlice E28 rfl rfl rfl rfl) ?_
     refine vb_stM ?_
     refine vb_expose 6 (by omega) rfl ?_
     refine vb_stM ?_
     refine vb_weaken 38 rfl ?_
     refine vb_stM ?_
     refine vb_any1 10 (by kernel_rfl) ?_
     refine sb_call 10 [0] hC rfl rfl (wnt_none rfl) Try.func98 rfl rfl rfl rfl rfl rfl rfl (one_sat (list := [_,_]) hc (by omega) (by simp) (by simp)) ?_
     rintro _ _ ⟨y39, hy39, rfl, rfl⟩
     refine ⟨Nat.le_of_ble_eq_true rfl, ⟨rfl, rfl, rfl, rfl⟩, .inl rfl, ?_⟩
     refine vb_stM ?_
     refine vb_ext 11 rfl (by kernel_rfl) rfl (xt_buildSlice E28 rfl rfl rfl rfl) ?_
     refine vb_stM ?_
     refine vb_one 12 rfl (by kernel_rfl) rfl ?_
     refine vo_appendU E28 rfl (by omega) rfl rfl rfl sd sd fun Rt15 => ?_
     refine vo_stM ?_
     try simp only [app_ints, app_intss, app_bools, appX_two]
     refine vo_done ⟨rfl, ?_⟩
     refine vb_light0 13 rfl rfl rfl (by kernel_rfl) (by kernel_rfl) (by kernel_rfl) (wnt_none rfl) (l0_index_ref rfl rfl rfl E23.und inf28 sz28 sd sd) ?_
     try simp only [Int.toNat_natCast]
     refine vb_one 14 rfl (by kernel_rfl) rfl ?_
     refine vo_totree 5 rfl (plain_ints _) ?_
     refine vo_stM ?_
     refine vo_weaktree 5 rfl ?_
     refine vo_stM ?_
     refine vo_put (p := .sl _ _ _) rfl rfl rfl rfl rfl rfl rfl hC rfl (by first | decide | (simp [refsOf]; done) | (simp [refsOf, SV.shift1, placeOf]; done)) inf28 sz28 sd ?_
     refine vo_stM ?_
     try simp only [List.set_set, set_intss]
     refine vo_done ⟨rfl, ?_⟩
     refine vb_nil (by kernel_rfl) ?_
     refine hK4 _ ?_
     refine vc_seq fun K16 hK16 => ?_
     refine vc_region ?_
     refine vo_load_varG rfl rfl rfl Try.underlying25 rfl inf25 sz25 rfl ?_
     refine vo_stM ?_
     refine vo_store_varG rfl rfl rfl rfl inf25 sz25 rfl ?_
     refine vo_stM ?_
     refine vo_nil ?_
     refine hK16 _ ?_
     refine vc_ret ?_
     change retQ _ _ _ _ _
     refine retQ_sel [2, 3] (srows := [_, _]) (.inr rfl) hC rfl rfl rfl rfl rfl rfl rfl ?_
     have hM := fun y => medX_of ⟨hb1, hb2, hb3⟩ ha1 ha2 hr1 hr2 x11.toNat y
     first
      | exact ⟨_, _, _, ⟨(hM y39).2.1, by omega⟩, rfl, rfl⟩
      | exact ⟨_, _, _, ⟨(hM 0).1, by omega⟩, rfl, rfl⟩
      | exact ⟨_, _, _, ⟨(hM 0).2.2, by omega⟩, rfl, rfl⟩
    ·refine sb_ext 9 rfl rfl (xt_buildSlice E28 rfl rfl rfl rfl) ?_
     refine vb_stM ?_
     refine vb_expose 5 (by omega) rfl ?_
     refine vb_stM ?_
     refine vb_weaken 38 rfl ?_
     refine vb_stM ?_
     refine vb_any2 7 10 (by kernel_rfl) ?_ ?_
     ·refine sb_extE 7 rfl (fun _ => rfl) (xt_load_take1 rfl rfl (by omega) Try.underlying28 rfl (getP (L := X.abs) [] (by omega))) fun Rf36 => ?_
      refine vb_stM ?_
      refine vb_treeown 6 (by omega) rfl ?_
      refine vb_stM ?_
      refine vb_any1 10 (by kernel_rfl) ?_
      refine sb_call 10 [0] hC rfl rfl (wnt_none rfl) Try.func98 rfl rfl rfl rfl rfl rfl rfl (one_sat (list := [_,_]) hc (by omega) (by simp) (by simp)) ?_
      rintro _ _ ⟨y39, hy39, rfl, rfl⟩
      refine ⟨Nat.le_of_ble_eq_true rfl, ⟨rfl, rfl, rfl, rfl⟩, .inl rfl, ?_⟩
      refine vb_stM ?_
      refine vb_ext 11 rfl (by kernel_rfl) rfl (xt_buildSlice E28 rfl rfl rfl rfl) ?_
      refine vb_stM ?_
      refine vb_one 12 rfl (by kernel_rfl) rfl ?_
      refine vo_appendU E28 rfl (by omega) rfl rfl rfl sd sd fun Rt16 => ?_
      refine vo_stM ?_
      try simp only [app_ints, app_intss, app_bools, appX_two]
      refine vo_done ⟨rfl, ?_⟩
      refine vb_light0 13 rfl rfl rfl (by kernel_rfl) (by kernel_rfl) (by kernel_rfl) (wnt_none rfl) (l0_index_ref rfl rfl rfl E23.und inf28 sz28 sd sd) ?_
      try simp only [Int.toNat_natCast]
      refine vb_one 14 rfl (by kernel_rfl) rfl ?_
      refine vo_totree 6 rfl (plain_ints _) ?_
      refine vo_stM ?_
      refine vo_weaktree 6 rfl ?_
      refine vo_stM ?_
      refine vo_put (p := .sl _ _ _) rfl rfl rfl rfl rfl rfl rfl hC rfl (by first | decide | (simp [refsOf]; done) | (simp [refsOf, SV.shift1, placeOf]; done)) inf28 sz28 sd ?_
      refine vo_stM ?_
      try simp only [List.set_set, set_intss]
      refine vo_done ⟨rfl, ?_⟩
      refine vb_nil (by kernel_rfl) ?_
      refine hK4 _ ?_
      refine vc_seq fun K17 hK17 => ?_
      refine vc_region ?_
      refine vo_load_varG rfl rfl rfl Try.underlying25 rfl inf25 sz25 rfl ?_
      refine vo_stM ?_
      refine vo_store_varG rfl rfl rfl rfl inf25 sz25 rfl ?_
      refine vo_stM ?_
      refine vo_nil ?_
      refine hK17 _ ?_
      refine vc_ret ?_
      change retQ _ _ _ _ _
      refine retQ_sel [2, 3] (srows := [_, _]) (.inr rfl) hC rfl rfl rfl rfl rfl rfl rfl ?_
      have hM := fun y => medX_of ⟨hb1, hb2, hb3⟩ ha1 ha2 hr1 hr2 x11.toNat y
      first
       | exact ⟨_, _, _, ⟨(hM y39).2.1, by omega⟩, rfl, rfl⟩
       | exact ⟨_, _, _, ⟨(hM 0).1, by omega⟩, rfl, rfl⟩
       | exact ⟨_, _, _, ⟨(hM 0).2.2, by omega⟩, rfl, rfl⟩
     ·refine sb_call 10 [0] hC rfl rfl (wnt_none rfl) Try.func98 rfl rfl rfl rfl rfl rfl rfl (one_sat (list := [_,_]) hc (by omega) (by simp) (by simp)) ?_
      rintro _ _ ⟨y39, hy39, rfl, rfl⟩
      refine ⟨Nat.le_of_ble_eq_true rfl, ⟨rfl, rfl, rfl, rfl⟩, .inl rfl, ?_⟩
      refine vb_stM ?_
      refine vb_any2 7 11 (by kernel_rfl) ?_ ?_
      ·refine sb_extE 7 rfl (fun _ => rfl) (xt_load_take1 rfl rfl (by omega) Try.underlying28 rfl (getP (L := X.abs) [] (by omega))) fun Rf36 => ?_
       refine vb_stM ?_
       refine vb_treeown 6 (by omega) rfl ?_
       refine vb_stM ?_
       refine vb_ext 11 rfl (by kernel_rfl) rfl (xt_buildSlice E28 rfl rfl rfl rfl) ?_
       refine vb_stM ?_
       refine vb_one 12 rfl (by kernel_rfl) rfl ?_
       refine vo_appendU E28 rfl (by omega) rfl rfl rfl sd sd fun Rt17 => ?_
       refine vo_stM ?_
       try simp only [app_ints, app_intss, app_bools, appX_two]
       refine vo_done ⟨rfl, ?_⟩
       refine vb_light0 13 rfl rfl rfl (by kernel_rfl) (by kernel_rfl) (by kernel_rfl) (wnt_none rfl) (l0_index_ref rfl rfl rfl E23.und inf28 sz28 sd sd) ?_
       try simp only [Int.toNat_natCast]
       refine vb_one 14 rfl (by kernel_rfl) rfl ?_
       refine vo_totree 6 rfl (plain_ints _) ?_
       refine vo_stM ?_
       refine vo_weaktree 6 rfl ?_
       refine vo_stM ?_
       refine vo_put (p := .sl _ _ _) rfl rfl rfl rfl rfl rfl rfl hC rfl (by first | decide | (simp [refsOf]; done) | (simp [refsOf, SV.shift1, placeOf]; done)) inf28 sz28 sd ?_
       refine vo_stM ?_
       try simp only [List.set_set, set_intss]
       refine vo_done ⟨rfl, ?_⟩
       refine vb_nil (by kernel_rfl) ?_
       refine hK4 _ ?_
       refine vc_seq fun K18 hK18 => ?_
       refine vc_region ?_
       refine vo_load_varG rfl rfl rfl Try.underlying25 rfl inf25 sz25 rfl ?_
       refine vo_stM ?_
       refine vo_store_varG rfl rfl rfl rfl inf25 sz25 rfl ?_
       refine vo_stM ?_
       refine vo_nil ?_
       refine hK18 _ ?_
       refine vc_ret ?_
       change retQ _ _ _ _ _
       refine retQ_sel [2, 3] (srows := [_, _]) (.inr rfl) hC rfl rfl rfl rfl rfl rfl rfl ?_
       have hM := fun y => medX_of ⟨hb1, hb2, hb3⟩ ha1 ha2 hr1 hr2 x11.toNat y
       first
        | exact ⟨_, _, _, ⟨(hM y39).2.1, by omega⟩, rfl, rfl⟩
        | exact ⟨_, _, _, ⟨(hM 0).1, by omega⟩, rfl, rfl⟩
        | exact ⟨_, _, _, ⟨(hM 0).2.2, by omega⟩, rfl, rfl⟩
      ·refine sb_ext 11 rfl rfl (xt_buildSlice E28 rfl rfl rfl rfl) ?_
       refine vb_stM ?_
       refine vb_any1 7 (by kernel_rfl) ?_
       refine sb_extE 7 rfl (fun _ => rfl) (xt_load_take1 rfl rfl (by omega) Try.underlying28 rfl (getP (L := X.abs) [] (by omega))) fun Rf36 => ?_
       refine vb_stM ?_
       refine vb_treeown 7 (by omega) rfl ?_
       refine vb_stM ?_
       refine vb_one 12 rfl (by kernel_rfl) rfl ?_
       refine vo_appendU E28 rfl (by omega) rfl rfl rfl sd sd fun Rt18 => ?_
       refine vo_stM ?_
       try simp only [app_ints, app_intss, app_bools, appX_two]
       refine vo_done ⟨rfl, ?_⟩
       refine vb_light0 13 rfl rfl rfl (by kernel_rfl) (by kernel_rfl) (by kernel_rfl) (wnt_none rfl) (l0_index_ref rfl rfl rfl E23.und inf28 sz28 sd sd) ?_
       try simp only [Int.toNat_natCast]
       refine vb_one 14 rfl (by kernel_rfl) rfl ?_
       refine vo_totree 7 rfl (plain_ints _) ?_
       refine vo_stM ?_
       refine vo_weaktree 7 rfl ?_
       refine vo_stM ?_
       refine vo_put (p := .sl _ _ _) rfl rfl rfl rfl rfl rfl rfl hC rfl (by first | decide | (simp [refsOf]; done) | (simp [refsOf, SV.shift1, placeOf]; done)) inf28 sz28 sd ?_
       refine vo_stM ?_
       try simp only [List.set_set, set_intss]
       refine vo_done ⟨rfl, ?_⟩
       refine vb_nil (by kernel_rfl) ?_
       refine hK4 _ ?_
       refine vc_seq fun K19 hK19 => ?_
       refine vc_region ?_
       refine vo_load_varG rfl rfl rfl Try.underlying25 rfl inf25 sz25 rfl ?_
       refine vo_stM ?_
       refine vo_store_varG rfl rfl rfl rfl inf25 sz25 rfl ?_
       refine vo_stM ?_
       refine vo_nil ?_
       refine hK19 _ ?_
       refine vc_ret ?_
       change retQ _ _ _ _ _
       refine retQ_sel [2, 3] (srows := [_, _]) (.inr rfl) hC rfl rfl rfl rfl rfl rfl rfl ?_
       have hM := fun y => medX_of ⟨hb1, hb2, hb3⟩ ha1 ha2 hr1 hr2 x11.toNat y
       first
        | exact ⟨_, _, _, ⟨(hM y39).2.1, by omega⟩, rfl, rfl⟩
        | exact ⟨_, _, _, ⟨(hM 0).1, by omega⟩, rfl, rfl⟩
        | exact ⟨_, _, _, ⟨(hM 0).2.2, by omega⟩, rfl, rfl⟩
   ·refine sb_extE 7 rfl (fun _ => rfl) (xt_load_take1 rfl rfl (by omega) Try.underlying28 rfl (getP (L := X.abs) [] (by omega))) fun Rf36 => ?_
    refine vb_stM ?_
    refine vb_treeown 5 (by omega) rfl ?_
    refine vb_stM ?_
    refine vb_any2 1 9 (by kernel_rfl) ?_ ?_
    ·refine sb_light 1 rfl rfl rfl (wnt_none rfl) (lb_load_var hC rfl rfl rfl rfl Try.underlying23 rfl rfl) ?_
     refine vb_ext 9 rfl (by kernel_rfl) rfl (xt_buildSlice E28 rfl rfl rfl rfl) ?_
     refine vb_stM ?_
     refine vb_expose 6 (by omega) rfl ?_
     refine vb_stM ?_
     refine vb_weaken 38 rfl ?_
     refine vb_stM ?_
     refine vb_any1 10 (by kernel_rfl) ?_
     refine sb_call 10 [0] hC rfl rfl (wnt_none rfl) Try.func98 rfl rfl rfl rfl rfl rfl rfl (one_sat (list := [_,_]) hc (by omega) (by simp) (by simp)) ?_
     rintro _ _ ⟨y39, hy39, rfl, rfl⟩
     refine ⟨Nat.le_of_ble_eq_true rfl, ⟨rfl, rfl, rfl, rfl⟩, .inl rfl, ?_⟩
     refine vb_stM ?_
     refine vb_ext 11 rfl (by kernel_rfl) rfl (xt_buildSlice E28 rfl rfl rfl rfl) ?_
     refine vb_stM ?_
     refine vb_one 12 rfl (by kernel_rfl) rfl ?_
     refine vo_appendU E28 rfl (by omega) rfl rfl rfl sd sd fun Rt19 => ?_
     refine vo_stM ?_
     try simp only [app_ints, app_intss, app_bools, appX_two]
     refine vo_done ⟨rfl, ?_⟩
     refine vb_light0 13 rfl rfl rfl (by kernel_rfl) (by kernel_rfl) (by kernel_rfl) (wnt_none rfl) (l0_index_ref rfl rfl rfl E23.und inf28 sz28 sd sd) ?_
     try simp only [Int.toNat_natCast]
     refine vb_one 14 rfl (by kernel_rfl) rfl ?_
     refine vo_totree 5 rfl (plain_ints _) ?_
     refine vo_stM ?_
     refine vo_weaktree 5 rfl ?_
     refine vo_stM ?_
     refine vo_put (p := .sl _ _ _) rfl rfl rfl rfl rfl rfl rfl hC rfl (by first | decide | (simp [refsOf]; done) | (simp [refsOf, SV.shift1, placeOf]; done)) inf28 sz28 sd ?_
     refine vo_stM ?_
     try simp only [List.set_set, set_intss]
     refine vo_done ⟨rfl, ?_⟩
     refine vb_nil (by kernel_rfl) ?_
     refine hK4 _ ?_
     refine vc_seq fun K20 hK20 => ?_
     refine vc_region ?_
     refine vo_load_varG rfl rfl rfl Try.underlying25 rfl inf25 sz25 rfl ?_
     refine vo_stM ?_
     refine vo_store_varG rfl rfl rfl rfl inf25 sz25 rfl ?_
     refine vo_stM ?_
     refine vo_nil ?_
     refine hK20 _ ?_
     refine vc_ret ?_
     change retQ _ _ _ _ _
     refine retQ_sel [2, 3] (srows := [_, _]) (.inr rfl) hC rfl rfl rfl rfl rfl rfl rfl ?_
     have hM := fun y => medX_of ⟨hb1, hb2, hb3⟩ ha1 ha2 hr1 hr2 x11.toNat y
     first
      | exact ⟨_, _, _, ⟨(hM y39).2.1, by omega⟩, rfl, rfl⟩
      | exact ⟨_, _, _, ⟨(hM 0).1, by omega⟩, rfl, rfl⟩
      | exact ⟨_, _, _, ⟨(hM 0).2.2, by omega⟩, rfl, rfl⟩
    ·refine sb_ext 9 rfl rfl (xt_buildSlice E28 rfl rfl rfl rfl) ?_
     refine vb_stM ?_
     refine vb_expose 6 (by omega) rfl ?_
     refine vb_stM ?_
     refine vb_weaken 38 rfl ?_
     refine vb_stM ?_
     refine vb_any2 1 10 (by kernel_rfl) ?_ ?_
     ·refine sb_light 1 rfl rfl rfl (wnt_none rfl) (lb_load_var hC rfl rfl rfl rfl Try.underlying23 rfl rfl) ?_
      refine vb_any1 10 (by kernel_rfl) ?_
      refine sb_call 10 [0] hC rfl rfl (wnt_none rfl) Try.func98 rfl rfl rfl rfl rfl rfl rfl (one_sat (list := [_,_]) hc (by omega) (by simp) (by simp)) ?_
      rintro _ _ ⟨y39, hy39, rfl, rfl⟩
      refine ⟨Nat.le_of_ble_eq_true rfl, ⟨rfl, rfl, rfl, rfl⟩, .inl rfl, ?_⟩
      refine vb_stM ?_
      refine vb_ext 11 rfl (by kernel_rfl) rfl (xt_buildSlice E28 rfl rfl rfl rfl) ?_
      refine vb_stM ?_
      refine vb_one 12 rfl (by kernel_rfl) rfl ?_
      refine vo_appendU E28 rfl (by omega) rfl rfl rfl sd sd fun Rt20 => ?_
      refine vo_stM ?_
      try simp only [app_ints, app_intss, app_bools, appX_two]
      refine vo_done ⟨rfl, ?_⟩
      refine vb_light0 13 rfl rfl rfl (by kernel_rfl) (by kernel_rfl) (by kernel_rfl) (wnt_none rfl) (l0_index_ref rfl rfl rfl E23.und inf28 sz28 sd sd) ?_
      try simp only [Int.toNat_natCast]
      refine vb_one 14 rfl (by kernel_rfl) rfl ?_
      refine vo_totree 5 rfl (plain_ints _) ?_
      refine vo_stM ?_
      refine vo_weaktree 5 rfl ?_
      refine vo_stM ?_
      refine vo_put (p := .sl _ _ _) rfl rfl rfl rfl rfl rfl rfl hC rfl (by first | decide | (simp [refsOf]; done) | (simp [refsOf, SV.shift1, placeOf]; done)) inf28 sz28 sd ?_
      refine vo_stM ?_
      try simp only [List.set_set, set_intss]
      refine vo_done ⟨rfl, ?_⟩
      refine vb_nil (by kernel_rfl) ?_
      refine hK4 _ ?_
      refine vc_seq fun K21 hK21 => ?_
      refine vc_region ?_
      refine vo_load_varG rfl rfl rfl Try.underlying25 rfl inf25 sz25 rfl ?_
      refine vo_stM ?_
      refine vo_store_varG rfl rfl rfl rfl inf25 sz25 rfl ?_
      refine vo_stM ?_
      refine vo_nil ?_
      refine hK21 _ ?_
      refine vc_ret ?_
      change retQ _ _ _ _ _
      refine retQ_sel [2, 3] (srows := [_, _]) (.inr rfl) hC rfl rfl rfl rfl rfl rfl rfl ?_
      have hM := fun y => medX_of ⟨hb1, hb2, hb3⟩ ha1 ha2 hr1 hr2 x11.toNat y
      first
       | exact ⟨_, _, _, ⟨(hM y39).2.1, by omega⟩, rfl, rfl⟩
       | exact ⟨_, _, _, ⟨(hM 0).1, by omega⟩, rfl, rfl⟩
       | exact ⟨_, _, _, ⟨(hM 0).2.2, by omega⟩, rfl, rfl⟩
     ·refine sb_call 10 [0] hC rfl rfl (wnt_none rfl) Try.func98 rfl rfl rfl rfl rfl rfl rfl (one_sat (list := [_,_]) hc (by omega) (by simp) (by simp)) ?_
      rintro _ _ ⟨y39, hy39, rfl, rfl⟩
      refine ⟨Nat.le_of_ble_eq_true rfl, ⟨rfl, rfl, rfl, rfl⟩, .inl rfl, ?_⟩
      refine vb_stM ?_
      refine vb_any2 1 11 (by kernel_rfl) ?_ ?_
      ·refine sb_light 1 rfl rfl rfl (wnt_none rfl) (lb_load_var hC rfl rfl rfl rfl Try.underlying23 rfl rfl) ?_
       refine vb_ext 11 rfl (by kernel_rfl) rfl (xt_buildSlice E28 rfl rfl rfl rfl) ?_
       refine vb_stM ?_
       refine vb_one 12 rfl (by kernel_rfl) rfl ?_
       refine vo_appendU E28 rfl (by omega) rfl rfl rfl sd sd fun Rt21 => ?_
       refine vo_stM ?_
       try simp only [app_ints, app_intss, app_bools, appX_two]
       refine vo_done ⟨rfl, ?_⟩
       refine vb_light0 13 rfl rfl rfl (by kernel_rfl) (by kernel_rfl) (by kernel_rfl) (wnt_none rfl) (l0_index_ref rfl rfl rfl E23.und inf28 sz28 sd sd) ?_
       try simp only [Int.toNat_natCast]
       refine vb_one 14 rfl (by kernel_rfl) rfl ?_
       refine vo_totree 5 rfl (plain_ints _) ?_
       refine vo_stM ?_
       refine vo_weaktree 5 rfl ?_
       refine vo_stM ?_
       refine vo_put (p := .sl _ _ _) rfl rfl rfl rfl rfl rfl rfl hC rfl (by first | decide | (simp [refsOf]; done) | (simp [refsOf, SV.shift1, placeOf]; done)) inf28 sz28 sd ?_
       refine vo_stM ?_
       try simp only [List.set_set, set_intss]
       refine vo_done ⟨rfl, ?_⟩
       refine vb_nil (by kernel_rfl) ?_
       refine hK4 _ ?_
       refine vc_seq fun K22 hK22 => ?_
       refine vc_region ?_
       refine vo_load_varG rfl rfl rfl Try.underlying25 rfl inf25 sz25 rfl ?_
       refine vo_stM ?_
       refine vo_store_varG rfl rfl rfl rfl inf25 sz25 rfl ?_
       refine vo_stM ?_
       refine vo_nil ?_
       refine hK22 _ ?_
       refine vc_ret ?_
       change retQ _ _ _ _ _
       refine retQ_sel [2, 3] (srows := [_, _]) (.inr rfl) hC rfl rfl rfl rfl rfl rfl rfl ?_
       have hM := fun y => medX_of ⟨hb1, hb2, hb3⟩ ha1 ha2 hr1 hr2 x11.toNat y
       first
        | exact ⟨_, _, _, ⟨(hM y39).2.1, by omega⟩, rfl, rfl⟩
        | exact ⟨_, _, _, ⟨(hM 0).1, by omega⟩, rfl, rfl⟩
        | exact ⟨_, _, _, ⟨(hM 0).2.2, by omega⟩, rfl, rfl⟩
      ·refine sb_ext 11 rfl rfl (xt_buildSlice E28 rfl rfl rfl rfl) ?_
       refine vb_stM ?_
       refine vb_any2 1 12 (by kernel_rfl) ?_ ?_
       ·refine sb_light 1 rfl rfl rfl (wnt_none rfl) (lb_load_var hC rfl rfl rfl rfl Try.underlying23 rfl rfl) ?_
        refine vb_one 12 rfl (by kernel_rfl) rfl ?_
        refine vo_appendU E28 rfl (by omega) rfl rfl rfl sd sd fun Rt22 => ?_
        refine vo_stM ?_
        try simp only [app_ints, app_intss, app_bools, appX_two]
        refine vo_done ⟨rfl, ?_⟩
        refine vb_light0 13 rfl rfl rfl (by kernel_rfl) (by kernel_rfl) (by kernel_rfl) (wnt_none rfl) (l0_index_ref rfl rfl rfl E23.und inf28 sz28 sd sd) ?_
        try simp only [Int.toNat_natCast]
        refine vb_one 14 rfl (by kernel_rfl) rfl ?_
        refine vo_totree 5 rfl (plain_ints _) ?_
        refine vo_stM ?_
        refine vo_weaktree 5 rfl ?_
        refine vo_stM ?_
        refine vo_put (p := .sl _ _ _) rfl rfl rfl rfl rfl rfl rfl hC rfl (by first | decide | (simp [refsOf]; done) | (simp [refsOf, SV.shift1, placeOf]; done)) inf28 sz28 sd ?_
        refine vo_stM ?_
        try simp only [List.set_set, set_intss]
        refine vo_done ⟨rfl, ?_⟩
        refine vb_nil (by kernel_rfl) ?_
        refine hK4 _ ?_
        refine vc_seq fun K23 hK23 => ?_
        refine vc_region ?_
        refine vo_load_varG rfl rfl rfl Try.underlying25 rfl inf25 sz25 rfl ?_
        refine vo_stM ?_
        refine vo_store_varG rfl rfl rfl rfl inf25 sz25 rfl ?_
        refine vo_stM ?_
        refine vo_nil ?_
        refine hK23 _ ?_
        refine vc_ret ?_
        change retQ _ _ _ _ _
        refine retQ_sel [2, 3] (srows := [_, _]) (.inr rfl) hC rfl rfl rfl rfl rfl rfl rfl ?_
        have hM := fun y => medX_of ⟨hb1, hb2, hb3⟩ ha1 ha2 hr1 hr2 x11.toNat y
        first
         | exact ⟨_, _, _, ⟨(hM y39).2.1, by omega⟩, rfl, rfl⟩
         | exact ⟨_, _, _, ⟨(hM 0).1, by omega⟩, rfl, rfl⟩
         | exact ⟨_, _, _, ⟨(hM 0).2.2, by omega⟩, rfl, rfl⟩
       ·refine sb_one 12 rfl (by kernel_rfl) ?_
        refine vo_appendU E28 rfl (by omega) rfl rfl rfl sd sd fun Rt23 => ?_
        refine vo_stM ?_
        try simp only [app_ints, app_intss, app_bools, appX_two]
        refine vo_done ⟨rfl, ?_⟩
        refine vb_any1 1 (by kernel_rfl) ?_
        refine sb_light 1 rfl rfl rfl (wnt_none rfl) (lb_load_var hC rfl rfl rfl rfl Try.underlying23 rfl rfl) ?_
        refine vb_light0 13 rfl rfl rfl (by kernel_rfl) (by kernel_rfl) (by kernel_rfl) (wnt_none rfl) (l0_index_ref rfl rfl rfl E23.und inf28 sz28 sd sd) ?_
        try simp only [Int.toNat_natCast]
        refine vb_one 14 rfl (by kernel_rfl) rfl ?_
        refine vo_totree 5 rfl (plain_ints _) ?_
        refine vo_stM ?_
        refine vo_weaktree 5 rfl ?_
        refine vo_stM ?_
        refine vo_put (p := .sl _ _ _) rfl rfl rfl rfl rfl rfl rfl hC rfl (by first | decide | (simp [refsOf]; done) | (simp [refsOf, SV.shift1, placeOf]; done)) inf28 sz28 sd ?_
        refine vo_stM ?_
        try simp only [List.set_set, set_intss]
        refine vo_done ⟨rfl, ?_⟩
        refine vb_nil (by kernel_rfl) ?_
        refine hK4 _ ?_
        refine vc_seq fun K24 hK24 => ?_
        refine vc_region ?_
        refine vo_load_varG rfl rfl rfl Try.underlying25 rfl inf25 sz25 rfl ?_
        refine vo_stM ?_
        refine vo_store_varG rfl rfl rfl rfl inf25 sz25 rfl ?_
        refine vo_stM ?_
        refine vo_nil ?_
        refine hK24 _ ?_
        refine vc_ret ?_
        change retQ _ _ _ _ _
        refine retQ_sel [2, 3] (srows := [_, _]) (.inr rfl) hC rfl rfl rfl rfl rfl rfl rfl ?_
        have hM := fun y => medX_of ⟨hb1, hb2, hb3⟩ ha1 ha2 hr1 hr2 x11.toNat y
        first
         | exact ⟨_, _, _, ⟨(hM y39).2.1, by omega⟩, rfl, rfl⟩
         | exact ⟨_, _, _, ⟨(hM 0).1, by omega⟩, rfl, rfl⟩
         | exact ⟨_, _, _, ⟨(hM 0).2.2, by omega⟩, rfl, rfl⟩
   ·refine sb_ext 9 rfl rfl (xt_buildSlice E28 rfl rfl rfl rfl) ?_
    refine vb_stM ?_
    refine vb_expose 5 (by omega) rfl ?_
    refine vb_stM ?_
    refine vb_weaken 38 rfl ?_
    refine vb_stM ?_
    refine vb_any3 1 7 10 (by kernel_rfl) ?_ ?_ ?_
    ·refine sb_light 1 rfl rfl rfl (wnt_none rfl) (lb_load_var hC rfl rfl rfl rfl Try.underlying23 rfl rfl) ?_
     refine vb_any2 7 10 (by kernel_rfl) ?_ ?_
     ·refine sb_extE 7 rfl (fun _ => rfl) (xt_load_take1 rfl rfl (by omega) Try.underlying28 rfl (getP (L := X.abs) [] (by omega))) fun Rf36 => ?_
      refine vb_stM ?_
      refine vb_treeown 6 (by omega) rfl ?_
      refine vb_stM ?_
      refine vb_any1 10 (by kernel_rfl) ?_
      refine sb_call 10 [0] hC rfl rfl (wnt_none rfl) Try.func98 rfl rfl rfl rfl rfl rfl rfl (one_sat (list := [_,_]) hc (by omega) (by simp) (by simp)) ?_
      rintro _ _ ⟨y39, hy39, rfl, rfl⟩
      refine ⟨Nat.le_of_ble_eq_true rfl, ⟨rfl, rfl, rfl, rfl⟩, .inl rfl, ?_⟩
      refine vb_stM ?_
      refine vb_ext 11 rfl (by kernel_rfl) rfl (xt_buildSlice E28 rfl rfl rfl rfl) ?_
      refine vb_stM ?_
      refine vb_one 12 rfl (by kernel_rfl) rfl ?_
      refine vo_appendU E28 rfl (by omega) rfl rfl rfl sd sd fun Rt24 => ?_
      refine vo_stM ?_
      try simp only [app_ints, app_intss, app_bools, appX_two]
      refine vo_done ⟨rfl, ?_⟩
      refine vb_light0 13 rfl rfl rfl (by kernel_rfl) (by kernel_rfl) (by kernel_rfl) (wnt_none rfl) (l0_index_ref rfl rfl rfl E23.und inf28 sz28 sd sd) ?_
      try simp only [Int.toNat_natCast]
      refine vb_one 14 rfl (by kernel_rfl) rfl ?_
      refine vo_totree 6 rfl (plain_ints _) ?_
      refine vo_stM ?_
      refine vo_weaktree 6 rfl ?_
      refine vo_stM ?_
      refine vo_put (p := .sl _ _ _) rfl rfl rfl rfl rfl rfl rfl hC rfl (by first | decide | (simp [refsOf]; done) | (simp [refsOf, SV.shift1, placeOf]; done)) inf28 sz28 sd ?_
      refine vo_stM ?_
      try simp only [List.set_set, set_intss]
      refine vo_done ⟨rfl, ?_⟩
      refine vb_nil (by kernel_rfl) ?_
      refine hK4 _ ?_
      refine vc_seq fun K25 hK25 => ?_
      refine vc_region ?_
      refine vo_load_varG rfl rfl rfl Try.underlying25 rfl inf25 sz25 rfl ?_
      refine vo_stM ?_
      refine vo_store_varG rfl rfl rfl rfl inf25 sz25 rfl ?_
      refine vo_stM ?_
      refine vo_nil ?_
      refine hK25 _ ?_
      refine vc_ret ?_
      change retQ _ _ _ _ _
      refine retQ_sel [2, 3] (srows := [_, _]) (.inr rfl) hC rfl rfl rfl rfl rfl rfl rfl ?_
      have hM := fun y => medX_of ⟨hb1, hb2, hb3⟩ ha1 ha2 hr1 hr2 x11.toNat y
      first
       | exact ⟨_, _, _, ⟨(hM y39).2.1, by omega⟩, rfl, rfl⟩
       | exact ⟨_, _, _, ⟨(hM 0).1, by omega⟩, rfl, rfl⟩
       | exact ⟨_, _, _, ⟨(hM 0).2.2, by omega⟩, rfl, rfl⟩
     ·refine sb_call 10 [0] hC rfl rfl (wnt_none rfl) Try.func98 rfl rfl rfl rfl rfl rfl rfl (one_sat (list := [_,_]) hc (by omega) (by simp) (by simp)) ?_
      rintro _ _ ⟨y39, hy39, rfl, rfl⟩
      refine ⟨Nat.le_of_ble_eq_true rfl, ⟨rfl, rfl, rfl, rfl⟩, .inl rfl, ?_⟩
      refine vb_stM ?_
      refine vb_any2 7 11 (by kernel_rfl) ?_ ?_
      ·refine sb_extE 7 rfl (fun _ => rfl) (xt_load_take1 rfl rfl (by omega) Try.underlying28 rfl (getP (L := X.abs) [] (by omega))) fun Rf36 => ?_
       refine vb_stM ?_
       refine vb_treeown 6 (by omega) rfl ?_
       refine vb_stM ?_
       refine vb_ext 11 rfl (by kernel_rfl) rfl (xt_buildSlice E28 rfl rfl rfl rfl) ?_
       refine vb_stM ?_
       refine vb_one 12 rfl (by kernel_rfl) rfl ?_
       refine vo_appendU E28 rfl (by omega) rfl rfl rfl sd sd fun Rt25 => ?_
       refine vo_stM ?_
       try simp only [app_ints, app_intss, app_bools, appX_two]
       refine vo_done ⟨rfl, ?_⟩
       refine vb_light0 13 rfl rfl rfl (by kernel_rfl) (by kernel_rfl) (by kernel_rfl) (wnt_none rfl) (l0_index_ref rfl rfl rfl E23.und inf28 sz28 sd sd) ?_
       try simp only [Int.toNat_natCast]
       refine vb_one 14 rfl (by kernel_rfl) rfl ?_
       refine vo_totree 6 rfl (plain_ints _) ?_
       refine vo_stM ?_
       refine vo_weaktree 6 rfl ?_
       refine vo_stM ?_
       refine vo_put (p := .sl _ _ _) rfl rfl rfl rfl rfl rfl rfl hC rfl (by first | decide | (simp [refsOf]; done) | (simp [refsOf, SV.shift1, placeOf]; done)) inf28 sz28 sd ?_
       refine vo_stM ?_
       try simp only [List.set_set, set_intss]
       refine vo_done ⟨rfl, ?_⟩
       refine vb_nil (by kernel_rfl) ?_
       refine hK4 _ ?_
       refine vc_seq fun K26 hK26 => ?_
       refine vc_region ?_
       refine vo_load_varG rfl rfl rfl Try.underlying25 rfl inf25 sz25 rfl ?_
       refine vo_stM ?_
       refine vo_store_varG rfl rfl rfl rfl inf25 sz25 rfl ?_
       refine vo_stM ?_
       refine vo_nil ?_
       refine hK26 _ ?_
       refine vc_ret ?_
       change retQ _ _ _ _ _
       refine retQ_sel [2, 3] (srows := [_, _]) (.inr rfl) hC rfl rfl rfl rfl rfl rfl rfl ?_
       have hM := fun y => medX_of ⟨hb1, hb2, hb3⟩ ha1 ha2 hr1 hr2 x11.toNat y
       first
        | exact ⟨_, _, _, ⟨(hM y39).2.1, by omega⟩, rfl, rfl⟩
        | exact ⟨_, _, _, ⟨(hM 0).1, by omega⟩, rfl, rfl⟩
        | exact ⟨_, _, _, ⟨(hM 0).2.2, by omega⟩, rfl, rfl⟩
      ·refine sb_ext 11 rfl rfl (xt_buildSlice E28 rfl rfl rfl rfl) ?_
       refine vb_stM ?_
       refine vb_any1 7 (by kernel_rfl) ?_
       refine sb_extE 7 rfl (fun _ => rfl) (xt_load_take1 rfl rfl (by omega) Try.underlying28 rfl (getP (L := X.abs) [] (by omega))) fun Rf36 => ?_
       refine vb_stM ?_
       refine vb_treeown 7 (by omega) rfl ?_
       refine vb_stM ?_
       refine vb_one 12 rfl (by kernel_rfl) rfl ?_
       refine vo_appendU E28 rfl (by omega) rfl rfl rfl sd sd fun Rt26 => ?_
       refine vo_stM ?_
       try simp only [app_ints, app_intss, app_bools, appX_two]
       refine vo_done ⟨rfl, ?_⟩
       refine vb_light0 13 rfl rfl rfl (by kernel_rfl) (by kernel_rfl) (by kernel_rfl) (wnt_none rfl) (l0_index_ref rfl rfl rfl E23.und inf28 sz28 sd sd) ?_
       try simp only [Int.toNat_natCast]
       refine vb_one 14 rfl (by kernel_rfl) rfl ?_
       refine vo_totree 7 rfl (plain_ints _) ?_
       refine vo_stM ?_
       refine vo_weaktree 7 rfl ?_
       refine vo_stM ?_
       refine vo_put (p := .sl _ _ _) rfl rfl rfl rfl rfl rfl rfl hC rfl (by first | decide | (simp [refsOf]; done) | (simp [refsOf, SV.shift1, placeOf]; done)) inf28 sz28 sd ?_
       refine vo_stM ?_
       try simp only [List.set_set, set_intss]
       refine vo_done ⟨rfl, ?_⟩
       refine vb_nil (by kernel_rfl) ?_
       refine hK4 _ ?_
       refine vc_seq fun K27 hK27 => ?_
       refine vc_region ?_
       refine vo_load_varG rfl rfl rfl Try.underlying25 rfl inf25 sz25 rfl ?_
       refine vo_stM ?_
       refine vo_store_varG rfl rfl rfl rfl inf25 sz25 rfl ?_
       refine vo_stM ?_
       refine vo_nil ?_
       refine hK27 _ ?_
       refine vc_ret ?_
       change retQ _ _ _ _ _
       refine retQ_sel [2, 3] (srows := [_, _]) (.inr rfl) hC rfl rfl rfl rfl rfl rfl rfl ?_
       have hM := fun y => medX_of ⟨hb1, hb2, hb3⟩ ha1 ha2 hr1 hr2 x11.toNat y
       first
        | exact ⟨_, _, _, ⟨(hM y39).2.1, by omega⟩, rfl, rfl⟩
        | exact ⟨_, _, _, ⟨(hM 0).1, by omega⟩, rfl, rfl⟩
        | exact ⟨_, _, _, ⟨(hM 0).2.2, by omega⟩, rfl, rfl⟩
    ·refine sb_extE 7 rfl (fun _ => rfl) (xt_load_take1 rfl rfl (by omega) Try.underlying28 rfl (getP (L := X.abs) [] (by omega))) fun Rf36 => ?_
     refine vb_stM ?_
     refine vb_treeown 6 (by omega) rfl ?_
     refine vb_stM ?_
     refine vb_any2 1 10 (by kernel_rfl) ?_ ?_
     ·refine sb_light 1 rfl rfl rfl (wnt_none rfl) (lb_load_var hC rfl rfl rfl rfl Try.underlying23 rfl rfl) ?_
      refine vb_any1 10 (by kernel_rfl) ?_
      refine sb_call 10 [0] hC rfl rfl (wnt_none rfl) Try.func98 rfl rfl rfl rfl rfl rfl rfl (one_sat (list := [_,_]) hc (by omega) (by simp) (by simp)) ?_
      rintro _ _ ⟨y39, hy39, rfl, rfl⟩
      refine ⟨Nat.le_of_ble_eq_true rfl, ⟨rfl, rfl, rfl, rfl⟩, .inl rfl, ?_⟩
      refine vb_stM ?_
      refine vb_ext 11 rfl (by kernel_rfl) rfl (xt_buildSlice E28 rfl rfl rfl rfl) ?_
      refine vb_stM ?_
      refine vb_one 12 rfl (by kernel_rfl) rfl ?_
      refine vo_appendU E28 rfl (by omega) rfl rfl rfl sd sd fun Rt27 => ?_
      refine vo_stM ?_
      try simp only [app_ints, app_intss, app_bools, appX_two]
      refine vo_done ⟨rfl, ?_⟩
      refine vb_light0 13 rfl rfl rfl (by kernel_rfl) (by kernel_rfl) (by kernel_rfl) (wnt_none rfl) (l0_index_ref rfl rfl rfl E23.und inf28 sz28 sd sd) ?_
      try simp only [Int.toNat_natCast]
      refine vb_one 14 rfl (by kernel_rfl) rfl ?_
      refine vo_totree 6 rfl (plain_ints _) ?_
      refine vo_stM ?_
      refine vo_weaktree 6 rfl ?_
      refine vo_stM ?_
      refine vo_put (p := .sl _ _ _) rfl rfl rfl rfl rfl rfl rfl hC rfl (by first | decide | (simp [refsOf]; done) | (simp [refsOf, SV.shift1, placeOf]; done)) inf28 sz28 sd ?_
      refine vo_stM ?_
      try simp only [List.set_set, set_intss]
      refine vo_done ⟨rfl, ?_⟩
      refine vb_nil (by kernel_rfl) ?_
      refine hK4 _ ?_
      refine vc_seq fun K28 hK28 => ?_
      refine vc_region ?_
      refine vo_load_varG rfl rfl rfl Try.underlying25 rfl inf25 sz25 rfl ?_
      refine vo_stM ?_
      refine vo_store_varG rfl rfl rfl rfl inf25 sz25 rfl ?_
      refine vo_stM ?_
      refine vo_nil ?_
      refine hK28 _ ?_
      refine vc_ret ?_
      change retQ _ _ _ _ _
      refine retQ_sel [2, 3] (srows := [_, _]) (.inr rfl) hC rfl rfl rfl rfl rfl rfl rfl ?_
      have hM := fun y => medX_of ⟨hb1, hb2, hb3⟩ ha1 ha2 hr1 hr2 x11.toNat y
      first
       | exact ⟨_, _, _, ⟨(hM y39).2.1, by omega⟩, rfl, rfl⟩
       | exact ⟨_, _, _, ⟨(hM 0).1, by omega⟩, rfl, rfl⟩
       | exact ⟨_, _, _, ⟨(hM 0).2.2, by omega⟩, rfl, rfl⟩
     ·refine sb_call 10 [0] hC rfl rfl (wnt_none rfl) Try.func98 rfl rfl rfl rfl rfl rfl rfl (one_sat (list := [_,_]) hc (by omega) (by simp) (by simp)) ?_
      rintro _ _ ⟨y39, hy39, rfl, rfl⟩
      refine ⟨Nat.le_of_ble_eq_true rfl, ⟨rfl, rfl, rfl, rfl⟩, .inl rfl, ?_⟩
      refine vb_stM ?_
      refine vb_any2 1 11 (by kernel_rfl) ?_ ?_
      ·refine sb_light 1 rfl rfl rfl (wnt_none rfl) (lb_load_var hC rfl rfl rfl rfl Try.underlying23 rfl rfl) ?_
       refine vb_ext 11 rfl (by kernel_rfl) rfl (xt_buildSlice E28 rfl rfl rfl rfl) ?_
       refine vb_stM ?_
       refine vb_one 12 rfl (by kernel_rfl) rfl ?_
       refine vo_appendU E28 rfl (by omega) rfl rfl rfl sd sd fun Rt28 => ?_
       refine vo_stM ?_
       try simp only [app_ints, app_intss, app_bools, appX_two]
       refine vo_done ⟨rfl, ?_⟩
       refine vb_light0 13 rfl rfl rfl (by kernel_rfl) (by kernel_rfl) (by kernel_rfl) (wnt_none rfl) (l0_index_ref rfl rfl rfl E23.und inf28 sz28 sd sd) ?_
       try simp only [Int.toNat_natCast]
       refine vb_one 14 rfl (by kernel_rfl) rfl ?_
       refine vo_totree 6 rfl (plain_ints _) ?_
       refine vo_stM ?_
       refine vo_weaktree 6 rfl ?_
       refine vo_stM ?_
       refine vo_put (p := .sl _ _ _) rfl rfl rfl rfl rfl rfl rfl hC rfl (by first | decide | (simp [refsOf]; done) | (simp [refsOf, SV.shift1, placeOf]; done)) inf28 sz28 sd ?_
       refine vo_stM ?_
       try simp only [List.set_set, set_intss]
       refine vo_done ⟨rfl, ?_⟩
       refine vb_nil (by kernel_rfl) ?_
       refine hK4 _ ?_
       refine vc_seq fun K29 hK29 => ?_
       refine vc_region ?_
       refine vo_load_varG rfl rfl rfl Try.underlying25 rfl inf25 sz25 rfl ?_
       refine vo_stM ?_
       refine vo_store_varG rfl rfl rfl rfl inf25 sz25 rfl ?_
       refine vo_stM ?_
       refine vo_nil ?_
       refine hK29 _ ?_
       refine vc_ret ?_
       change retQ _ _ _ _ _
       refine retQ_sel [2, 3] (srows := [_, _]) (.inr rfl) hC rfl rfl rfl rfl rfl rfl rfl ?_
       have hM := fun y => medX_of ⟨hb1, hb2, hb3⟩ ha1 ha2 hr1 hr2 x11.toNat y
       first
        | exact ⟨_, _, _, ⟨(hM y39).2.1, by omega⟩, rfl, rfl⟩
        | exact ⟨_, _, _, ⟨(hM 0).1, by omega⟩, rfl, rfl⟩
        | exact ⟨_, _, _, ⟨(hM 0).2.2, by omega⟩, rfl, rfl⟩
      ·refine sb_ext 11 rfl rfl (xt_buildSlice E28 rfl rfl rfl rfl) ?_
       refine vb_stM ?_
       refine vb_any2 1 12 (by kernel_rfl) ?_ ?_
       ·refine sb_light 1 rfl rfl rfl (wnt_none rfl) (lb_load_var hC rfl rfl rfl rfl Try.underlying23 rfl rfl) ?_
        refine vb_one 12 rfl (by kernel_rfl) rfl ?_
        refine vo_appendU E28 rfl (by omega) rfl rfl rfl sd sd fun Rt29 => ?_
        refine vo_stM ?_
        try simp only [app_ints, app_intss, app_bools, appX_two]
        refine vo_done ⟨rfl, ?_⟩
        refine vb_light0 13 rfl rfl rfl (by kernel_rfl) (by kernel_rfl) (by kernel_rfl) (wnt_none rfl) (l0_index_ref rfl rfl rfl E23.und inf28 sz28 sd sd) ?_
        try simp only [Int.toNat_natCast]
        refine vb_one 14 rfl (by kernel_rfl) rfl ?_
        refine vo_totree 6 rfl (plain_ints _) ?_
        refine vo_stM ?_
        refine vo_weaktree 6 rfl ?_
        refine vo_stM ?_
        refine vo_put (p := .sl _ _ _) rfl rfl rfl rfl rfl rfl rfl hC rfl (by first | decide | (simp [refsOf]; done) | (simp [refsOf, SV.shift1, placeOf]; done)) inf28 sz28 sd ?_
        refine vo_stM ?_
        try simp only [List.set_set, set_intss]
        refine vo_done ⟨rfl, ?_⟩
        refine vb_nil (by kernel_rfl) ?_
        refine hK4 _ ?_
        refine vc_seq fun K30 hK30 => ?_
        refine vc_region ?_
        refine vo_load_varG rfl rfl rfl Try.underlying25 rfl inf25 sz25 rfl ?_
        refine vo_stM ?_
        refine vo_store_varG rfl rfl rfl rfl inf25 sz25 rfl ?_
        refine vo_stM ?_
        refine vo_nil ?_
        refine hK30 _ ?_
        refine vc_ret ?_
        change retQ _ _ _ _ _
        refine retQ_sel [2, 3] (srows := [_, _]) (.inr rfl) hC rfl rfl rfl rfl rfl rfl rfl ?_
        have hM := fun y => medX_of ⟨hb1, hb2, hb3⟩ ha1 ha2 hr1 hr2 x11.toNat y
        first
         | exact ⟨_, _, _, ⟨(hM y39).2.1, by omega⟩, rfl, rfl⟩
         | exact ⟨_, _, _, ⟨(hM 0).1, by omega⟩, rfl, rfl⟩
         | exact ⟨_, _, _, ⟨(hM 0).2.2, by omega⟩, rfl, rfl⟩
       ·refine sb_one 12 rfl (by kernel_rfl) ?_
        refine vo_appendU E28 rfl (by omega) rfl rfl rfl sd sd fun Rt30 => ?_
        refine vo_stM ?_
        try simp only [app_ints, app_intss, app_bools, appX_two]
        refine vo_done ⟨rfl, ?_⟩
        refine vb_any1 1 (by kernel_rfl) ?_
        refine sb_light 1 rfl rfl rfl (wnt_none rfl) (lb_load_var hC rfl rfl rfl rfl Try.underlying23 rfl rfl) ?_
        refine vb_light0 13 rfl rfl rfl (by kernel_rfl) (by kernel_rfl) (by kernel_rfl) (wnt_none rfl) (l0_index_ref rfl rfl rfl E23.und inf28 sz28 sd sd) ?_
        try simp only [Int.toNat_natCast]
        refine vb_one 14 rfl (by kernel_rfl) rfl ?_
        refine vo_totree 6 rfl (plain_ints _) ?_
        refine vo_stM ?_
        refine vo_weaktree 6 rfl ?_
        refine vo_stM ?_
        refine vo_put (p := .sl _ _ _) rfl rfl rfl rfl rfl rfl rfl hC rfl (by first | decide | (simp [refsOf]; done) | (simp [refsOf, SV.shift1, placeOf]; done)) inf28 sz28 sd ?_
        refine vo_stM ?_
        try simp only [List.set_set, set_intss]
        refine vo_done ⟨rfl, ?_⟩
        refine vb_nil (by kernel_rfl) ?_
        refine hK4 _ ?_
        refine vc_seq fun K31 hK31 => ?_
        refine vc_region ?_
        refine vo_load_varG rfl rfl rfl Try.underlying25 rfl inf25 sz25 rfl ?_
        refine vo_stM ?_
        refine vo_store_varG rfl rfl rfl rfl inf25 sz25 rfl ?_
        refine vo_stM ?_
        refine vo_nil ?_
        refine hK31 _ ?_
        refine vc_ret ?_
        change retQ _ _ _ _ _
        refine retQ_sel [2, 3] (srows := [_, _]) (.inr rfl) hC rfl rfl rfl rfl rfl rfl rfl ?_
        have hM := fun y => medX_of ⟨hb1, hb2, hb3⟩ ha1 ha2 hr1 hr2 x11.toNat y
        first
         | exact ⟨_, _, _, ⟨(hM y39).2.1, by omega⟩, rfl, rfl⟩
         | exact ⟨_, _, _, ⟨(hM 0).1, by omega⟩, rfl, rfl⟩
         | exact ⟨_, _, _, ⟨(hM 0).2.2, by omega⟩, rfl, rfl⟩
    ·refine sb_call 10 [0] hC rfl rfl (wnt_none rfl) Try.func98 rfl rfl rfl rfl rfl rfl rfl (one_sat (list := [_,_]) hc (by omega) (by simp) (by simp)) ?_
     rintro _ _ ⟨y39, hy39, rfl, rfl⟩
     refine ⟨Nat.le_of_ble_eq_true rfl, ⟨rfl, rfl, rfl, rfl⟩, .inl rfl, ?_⟩
     refine vb_stM ?_
     refine vb_any3 1 7 11 (by kernel_rfl) ?_ ?_ ?_
     ·refine sb_light 1 rfl rfl rfl (wnt_none rfl) (lb_load_var hC rfl rfl rfl rfl Try.underlying23 rfl rfl) ?_
      refine vb_any2 7 11 (by kernel_rfl) ?_ ?_
      ·refine sb_extE 7 rfl (fun _ => rfl) (xt_load_take1 rfl rfl (by omega) Try.underlying28 rfl (getP (L := X.abs) [] (by omega))) fun Rf36 => ?_
       refine vb_stM ?_
       refine vb_treeown 6 (by omega) rfl ?_
       refine vb_stM ?_
       refine vb_ext 11 rfl (by kernel_rfl) rfl (xt_buildSlice E28 rfl rfl rfl rfl) ?_
       refine vb_stM ?_
       refine vb_one 12 rfl (by kernel_rfl) rfl ?_
       refine vo_appendU E28 rfl (by omega) rfl rfl rfl sd sd fun Rt31 => ?_
       refine vo_stM ?_
       try simp only [app_ints, app_intss, app_bools, appX_two]
       refine vo_done ⟨rfl, ?_⟩
       refine vb_light0 13 rfl rfl rfl (by kernel_rfl) (by kernel_rfl) (by kernel_rfl) (wnt_none rfl) (l0_index_ref rfl rfl rfl E23.und inf28 sz28 sd sd) ?_
       try simp only [Int.toNat_natCast]
       refine vb_one 14 rfl (by kernel_rfl) rfl ?_
       refine vo_totree 6 rfl (plain_ints _) ?_
       refine vo_stM ?_
       refine vo_weaktree 6 rfl ?_
       refine vo_stM ?_
       refine vo_put (p := .sl _ _ _) rfl rfl rfl rfl rfl rfl rfl hC rfl (by first | decide | (simp [refsOf]; done) | (simp [refsOf, SV.shift1, placeOf]; done)) inf28 sz28 sd ?_
       refine vo_stM ?_
       try simp only [List.set_set, set_intss]
       refine vo_done ⟨rfl, ?_⟩
       refine vb_nil (by kernel_rfl) ?_
       refine hK4 _ ?_
       refine vc_seq fun K32 hK32 => ?_
       refine vc_region ?_
       refine vo_load_varG rfl rfl rfl Try.underlying25 rfl inf25 sz25 rfl ?_
       refine vo_stM ?_
       refine vo_store_varG rfl rfl rfl rfl inf25 sz25 rfl ?_
       refine vo_stM ?_
       refine vo_nil ?_
       refine hK32 _ ?_
       refine vc_ret ?_
       change retQ _ _ _ _ _
       refine retQ_sel [2, 3] (srows := [_, _]) (.inr rfl) hC rfl rfl rfl rfl rfl rfl rfl ?_
       have hM := fun y => medX_of ⟨hb1, hb2, hb3⟩ ha1 ha2 hr1 hr2 x11.toNat y
       first
        | exact ⟨_, _, _, ⟨(hM y39).2.1, by omega⟩, rfl, rfl⟩
        | exact ⟨_, _, _, ⟨(hM 0).1, by omega⟩, rfl, rfl⟩
        | exact ⟨_, _, _, ⟨(hM 0).2.2, by omega⟩, rfl, rfl⟩
      ·refine sb_ext 11 rfl rfl (xt_buildSlice E28 rfl rfl rfl rfl) ?_
       refine vb_stM ?_
       refine vb_any1 7 (by kernel_rfl) ?_
       refine sb_extE 7 rfl (fun _ => rfl) (xt_load_take1 rfl rfl (by omega) Try.underlying28 rfl (getP (L := X.abs) [] (by omega))) fun Rf36 => ?_
       refine vb_stM ?_
       refine vb_treeown 7 (by omega) rfl ?_
       refine vb_stM ?_
       refine vb_one 12 rfl (by kernel_rfl) rfl ?_
       refine vo_appendU E28 rfl (by omega) rfl rfl rfl sd sd fun Rt32 => ?_
       refine vo_stM ?_
       try simp only [app_ints, app_intss, app_bools, appX_two]
       refine vo_done ⟨rfl, ?_⟩
       refine vb_light0 13 rfl rfl rfl (by kernel_rfl) (by kernel_rfl) (by kernel_rfl) (wnt_none rfl) (l0_index_ref rfl rfl rfl E23.und inf28 sz28 sd sd) ?_
       try simp only [Int.toNat_natCast]
       refine vb_one 14 rfl (by kernel_rfl) rfl ?_
       refine vo_totree 7 rfl (plain_ints _) ?_
       refine vo_stM ?_
       refine vo_weaktree 7 rfl ?_
       refine vo_stM ?_
       refine vo_put (p := .sl _ _ _) rfl rfl rfl rfl rfl rfl rfl hC rfl (by first | decide | (simp [refsOf]; done) | (simp [refsOf, SV.shift1, placeOf]; done)) inf28 sz28 sd ?_
       refine vo_stM ?_
       try simp only [List.set_set, set_intss]
       refine vo_done ⟨rfl, ?_⟩
       refine vb_nil (by kernel_rfl) ?_
       refine hK4 _ ?_
       refine vc_seq fun K33 hK33 => ?_
       refine vc_region ?_
       refine vo_load_varG rfl rfl rfl Try.underlying25 rfl inf25 sz25 rfl ?_
       refine vo_stM ?_
       refine vo_store_varG rfl rfl rfl rfl inf25 sz25 rfl ?_
       refine vo_stM ?_
       refine vo_nil ?_
       refine hK33 _ ?_
       refine vc_ret ?_
       change retQ _ _ _ _ _
       refine retQ_sel [2, 3] (srows := [_, _]) (.inr rfl) hC rfl rfl rfl rfl rfl rfl rfl ?_
       have hM := fun y => medX_of ⟨hb1, hb2, hb3⟩ ha1 ha2 hr1 hr2 x11.toNat y
       first
        | exact ⟨_, _, _, ⟨(hM y39).2.1, by omega⟩, rfl, rfl⟩
        | exact ⟨_, _, _, ⟨(hM 0).1, by omega⟩, rfl, rfl⟩
        | exact ⟨_, _, _, ⟨(hM 0).2.2, by omega⟩, rfl, rfl⟩
     ·refine sb_extE 7 rfl (fun _ => rfl) (xt_load_take1 rfl rfl (by omega) Try.underlying28 rfl (getP (L := X.abs) [] (by omega))) fun Rf36 => ?_
      refine vb_stM ?_
      refine vb_treeown 6 (by omega) rfl ?_
      refine vb_stM ?_
      refine vb_any2 1 11 (by kernel_rfl) ?_ ?_
      ·refine sb_light 1 rfl rfl rfl (wnt_none rfl) (lb_load_var hC rfl rfl rfl rfl Try.underlying23 rfl rfl) ?_
       refine vb_ext 11 rfl (by kernel_rfl) rfl (xt_buildSlice E28 rfl rfl rfl rfl) ?_
       refine vb_stM ?_
       refine vb_one 12 rfl (by kernel_rfl) rfl ?_
       refine vo_appendU E28 rfl (by omega) rfl rfl rfl sd sd fun Rt33 => ?_
       refine vo_stM ?_
       try simp only [app_ints, app_intss, app_bools, appX_two]
       refine vo_done ⟨rfl, ?_⟩
       refine vb_light0 13 rfl rfl rfl (by kernel_rfl) (by kernel_rfl) (by kernel_rfl) (wnt_none rfl) (l0_index_ref rfl rfl rfl E23.und inf28 sz28 sd sd) ?_
       try simp only [Int.toNat_natCast]
       refine vb_one 14 rfl (by kernel_rfl) rfl ?_
       refine vo_totree 6 rfl (plain_ints _) ?_
       refine vo_stM ?_
       refine vo_weaktree 6 rfl ?_
       refine vo_stM ?_
       refine vo_put (p := .sl _ _ _) rfl rfl rfl rfl rfl rfl rfl hC rfl (by first | decide | (simp [refsOf]; done) | (simp [refsOf, SV.shift1, placeOf]; done)) inf28 sz28 sd ?_
       refine vo_stM ?_
       try simp only [List.set_set, set_intss]
       refine vo_done ⟨rfl, ?_⟩
       refine vb_nil (by kernel_rfl) ?_
       refine hK4 _ ?_
       refine vc_seq fun K34 hK34 => ?_
       refine vc_region ?_
       refine vo_load_varG rfl rfl rfl Try.underlying25 rfl inf25 sz25 rfl ?_
       refine vo_stM ?_
       refine vo_store_varG rfl rfl rfl rfl inf25 sz25 rfl ?_
       refine vo_stM ?_
       refine vo_nil ?_
       refine hK34 _ ?_
       refine vc_ret ?_
       change retQ _ _ _ _ _
       refine retQ_sel [2, 3] (srows := [_, _]) (.inr rfl) hC rfl rfl rfl rfl rfl rfl rfl ?_
       have hM := fun y => medX_of ⟨hb1, hb2, hb3⟩ ha1 ha2 hr1 hr2 x11.toNat y
       first
        | exact ⟨_, _, _, ⟨(hM y39).2.1, by omega⟩, rfl, rfl⟩
        | exact ⟨_, _, _, ⟨(hM 0).1, by omega⟩, rfl, rfl⟩
        | exact ⟨_, _, _, ⟨(hM 0).2.2, by omega⟩, rfl, rfl⟩
      ·refine sb_ext 11 rfl rfl (xt_buildSlice E28 rfl rfl rfl rfl) ?_
       refine vb_stM ?_
       refine vb_any2 1 12 (by kernel_rfl) ?_ ?_
       ·refine sb_light 1 rfl rfl rfl (wnt_none rfl) (lb_load_var hC rfl rfl rfl rfl Try.underlying23 rfl rfl) ?_
        refine vb_one 12 rfl (by kernel_rfl) rfl ?_
        refine vo_appendU E28 rfl (by omega) rfl rfl rfl sd sd fun Rt34 => ?_
        refine vo_stM ?_
        try simp only [app_ints, app_intss, app_bools, appX_two]
        refine vo_done ⟨rfl, ?_⟩
        refine vb_light0 13 rfl rfl rfl (by kernel_rfl) (by kernel_rfl) (by kernel_rfl) (wnt_none rfl) (l0_index_ref rfl rfl rfl E23.und inf28 sz28 sd sd) ?_
        try simp only [Int.toNat_natCast]
        refine vb_one 14 rfl (by kernel_rfl) rfl ?_
        refine vo_totree 6 rfl (plain_ints _) ?_
        refine vo_stM ?_
        refine vo_weaktree 6 rfl ?_
        refine vo_stM ?_
        refine vo_put (p := .sl _ _ _) rfl rfl rfl rfl rfl rfl rfl hC rfl (by first | decide | (simp [refsOf]; done) | (simp [refsOf, SV.shift1, placeOf]; done)) inf28 sz28 sd ?_
        refine vo_stM ?_
        try simp only [List.set_set, set_intss]
        refine vo_done ⟨rfl, ?_⟩
        refine vb_nil (by kernel_rfl) ?_
        refine hK4 _ ?_
        refine vc_seq fun K35 hK35 => ?_
        refine vc_region ?_
        refine vo_load_varG rfl rfl rfl Try.underlying25 rfl inf25 sz25 rfl ?_
        refine vo_stM ?_
        refine vo_store_varG rfl rfl rfl rfl inf25 sz25 rfl ?_
        refine vo_stM ?_
        refine vo_nil ?_
        refine hK35 _ ?_
        refine vc_ret ?_
        change retQ _ _ _ _ _
        refine retQ_sel [2, 3] (srows := [_, _]) (.inr rfl) hC rfl rfl rfl rfl rfl rfl rfl ?_
        have hM := fun y => medX_of ⟨hb1, hb2, hb3⟩ ha1 ha2 hr1 hr2 x11.toNat y
        first
         | exact ⟨_, _, _, ⟨(hM y39).2.1, by omega⟩, rfl, rfl⟩
         | exact ⟨_, _, _, ⟨(hM 0).1, by omega⟩, rfl, rfl⟩
         | exact ⟨_, _, _, ⟨(hM 0).2.2, by omega⟩, rfl, rfl⟩
       ·refine sb_one 12 rfl (by kernel_rfl) ?_
        refine vo_appendU E28 rfl (by omega) rfl rfl rfl sd sd fun Rt35 => ?_
        refine vo_stM ?_
        try simp only [app_ints, app_intss, app_bools, appX_two]
        refine vo_done ⟨rfl, ?_⟩
        refine vb_any1 1 (by kernel_rfl) ?_
        refine sb_light 1 rfl rfl rfl (wnt_none rfl) (lb_load_var hC rfl rfl rfl rfl Try.underlying23 rfl rfl) ?_
        refine vb_light0 13 rfl rfl rfl (by kernel_rfl) (by kernel_rfl) (by kernel_rfl) (wnt_none rfl) (l0_index_ref rfl rfl rfl E23.und inf28 sz28 sd sd) ?_
        try simp only [Int.toNat_natCast]
        refine vb_one 14 rfl (by kernel_rfl) rfl ?_
        refine vo_totree 6 rfl (plain_ints _) ?_
        refine vo_stM ?_
        refine vo_weaktree 6 rfl ?_
        refine vo_stM ?_
        refine vo_put (p := .sl _ _ _) rfl rfl rfl rfl rfl rfl rfl hC rfl (by first | decide | (simp [refsOf]; done) | (simp [refsOf, SV.shift1, placeOf]; done)) inf28 sz28 sd ?_
        refine vo_stM ?_
        try simp only [List.set_set, set_intss]
        refine vo_done ⟨rfl, ?_⟩
        refine vb_nil (by kernel_rfl) ?_
        refine hK4 _ ?_
        refine vc_seq fun K36 hK36 => ?_
        refine vc_region ?_
        refine vo_load_varG rfl rfl rfl Try.underlying25 rfl inf25 sz25 rfl ?_
        refine vo_stM ?_
        refine vo_store_varG rfl rfl rfl rfl inf25 sz25 rfl ?_
        refine vo_stM ?_
        refine vo_nil ?_
        refine hK36 _ ?_
        refine vc_ret ?_
        change retQ _ _ _ _ _
        refine retQ_sel [2, 3] (srows := [_, _]) (.inr rfl) hC rfl rfl rfl rfl rfl rfl rfl ?_
        have hM := fun y => medX_of ⟨hb1, hb2, hb3⟩ ha1 ha2 hr1 hr2 x11.toNat y
        first
         | exact ⟨_, _, _, ⟨(hM y39).2.1, by omega⟩, rfl, rfl⟩
         | exact ⟨_, _, _, ⟨(hM 0).1, by omega⟩, rfl, rfl⟩
         | exact ⟨_, _, _, ⟨(hM 0).2.2, by omega⟩, rfl, rfl⟩
     ·refine sb_ext 11 rfl rfl (xt_buildSlice E28 rfl rfl rfl rfl) ?_
      refine vb_stM ?_
      refine vb_any2 1 7 (by kernel_rfl) ?_ ?_
      ·refine sb_light 1 rfl rfl rfl (wnt_none rfl) (lb_load_var hC rfl rfl rfl rfl Try.underlying23 rfl rfl) ?_
       refine vb_any1 7 (by kernel_rfl) ?_
       refine sb_extE 7 rfl (fun _ => rfl) (xt_load_take1 rfl rfl (by omega) Try.underlying28 rfl (getP (L := X.abs) [] (by omega))) fun Rf36 => ?_
       refine vb_stM ?_
       refine vb_treeown 7 (by omega) rfl ?_
       refine vb_stM ?_
       refine vb_one 12 rfl (by kernel_rfl) rfl ?_
       refine vo_appendU E28 rfl (by omega) rfl rfl rfl sd sd fun Rt36 => ?_
       refine vo_stM ?_
       try simp only [app_ints, app_intss, app_bools, appX_two]
       refine vo_done ⟨rfl, ?_⟩
       refine vb_light0 13 rfl rfl rfl (by kernel_rfl) (by kernel_rfl) (by kernel_rfl) (wnt_none rfl) (l0_index_ref rfl rfl rfl E23.und inf28 sz28 sd sd) ?_
       try simp only [Int.toNat_natCast]
       refine vb_one 14 rfl (by kernel_rfl) rfl ?_
       refine vo_totree 7 rfl (plain_ints _) ?_
       refine vo_stM ?_
       refine vo_weaktree 7 rfl ?_
       refine vo_stM ?_
       refine vo_put (p := .sl _ _ _) rfl rfl rfl rfl rfl rfl rfl hC rfl (by first | decide | (simp [refsOf]; done) | (simp [refsOf, SV.shift1, placeOf]; done)) inf28 sz28 sd ?_
       refine vo_stM ?_
       try simp only [List.set_set, set_intss]
       refine vo_done ⟨rfl, ?_⟩
       refine vb_nil (by kernel_rfl) ?_
       refine hK4 _ ?_
       refine vc_seq fun K37 hK37 => ?_
       refine vc_region ?_
       refine vo_load_varG rfl rfl rfl Try.underlying25 rfl inf25 sz25 rfl ?_
       refine vo_stM ?_
       refine vo_store_varG rfl rfl rfl rfl inf25 sz25 rfl ?_
       refine vo_stM ?_
       refine vo_nil ?_
       refine hK37 _ ?_
       refine vc_ret ?_
       change retQ _ _ _ _ _
       refine retQ_sel [2, 3] (srows := [_, _]) (.inr rfl) hC rfl rfl rfl rfl rfl rfl rfl ?_
       have hM := fun y => medX_of ⟨hb1, hb2, hb3⟩ ha1 ha2 hr1 hr2 x11.toNat y
       first
        | exact ⟨_, _, _, ⟨(hM y39).2.1, by omega⟩, rfl, rfl⟩
        | exact ⟨_, _, _, ⟨(hM 0).1, by omega⟩, rfl, rfl⟩
        | exact ⟨_, _, _, ⟨(hM 0).2.2, by omega⟩, rfl, rfl⟩
      ·refine sb_extE 7 rfl (fun _ => rfl) (xt_load_take1 rfl rfl (by omega) Try.underlying28 rfl (getP (L := X.abs) [] (by omega))) fun Rf36 => ?_
       refine vb_stM ?_
       refine vb_treeown 7 (by omega) rfl ?_
       refine vb_stM ?_
       refine vb_any2 1 12 (by kernel_rfl) ?_ ?_
       ·refine sb_light 1 rfl rfl rfl (wnt_none rfl) (lb_load_var hC rfl rfl rfl rfl Try.underlying23 rfl rfl) ?_
        refine vb_one 12 rfl (by kernel_rfl) rfl ?_
        refine vo_appendU E28 rfl (by omega) rfl rfl rfl sd sd fun Rt37 => ?_
        refine vo_stM ?_
        try simp only [app_ints, app_intss, app_bools, appX_two]
        refine vo_done ⟨rfl, ?_⟩
        refine vb_light0 13 rfl rfl rfl (by kernel_rfl) (by kernel_rfl) (by kernel_rfl) (wnt_none rfl) (l0_index_ref rfl rfl rfl E23.und inf28 sz28 sd sd) ?_
        try simp only [Int.toNat_natCast]
        refine vb_one 14 rfl (by kernel_rfl) rfl ?_
        refine vo_totree 7 rfl (plain_ints _) ?_
        refine vo_stM ?_
        refine vo_weaktree 7 rfl ?_
        refine vo_stM ?_
        refine vo_put (p := .sl _ _ _) rfl rfl rfl rfl rfl rfl rfl hC rfl (by first | decide | (simp [refsOf]; done) | (simp [refsOf, SV.shift1, placeOf]; done)) inf28 sz28 sd ?_
        refine vo_stM ?_
        try simp only [List.set_set, set_intss]
        refine vo_done ⟨rfl, ?_⟩
        refine vb_nil (by kernel_rfl) ?_
        refine hK4 _ ?_
        refine vc_seq fun K38 hK38 => ?_
        refine vc_region ?_
        refine vo_load_varG rfl rfl rfl Try.underlying25 rfl inf25 sz25 rfl ?_
        refine vo_stM ?_
        refine vo_store_varG rfl rfl rfl rfl inf25 sz25 rfl ?_
        refine vo_stM ?_
        refine vo_nil ?_
        refine hK38 _ ?_
        refine vc_ret ?_
        change retQ _ _ _ _ _
        refine retQ_sel [2, 3] (srows := [_, _]) (.inr rfl) hC rfl rfl rfl rfl rfl rfl rfl ?_
        have hM := fun y => medX_of ⟨hb1, hb2, hb3⟩ ha1 ha2 hr1 hr2 x11.toNat y
        first
         | exact ⟨_, _, _, ⟨(hM y39).2.1, by omega⟩, rfl, rfl⟩
         | exact ⟨_, _, _, ⟨(hM 0).1, by omega⟩, rfl, rfl⟩
         | exact ⟨_, _, _, ⟨(hM 0).2.2, by omega⟩, rfl, rfl⟩
       ·refine sb_one 12 rfl (by kernel_rfl) ?_
        refine vo_appendU E28 rfl (by omega) rfl rfl rfl sd sd fun Rt38 => ?_
        refine vo_stM ?_
        try simp only [app_ints, app_intss, app_bools, appX_two]
        refine vo_done ⟨rfl, ?_⟩
        refine vb_any1 1 (by kernel_rfl) ?_
        refine sb_light 1 rfl rfl rfl (wnt_none rfl) (lb_load_var hC rfl rfl rfl rfl Try.underlying23 rfl rfl) ?_
        refine vb_light0 13 rfl rfl rfl (by kernel_rfl) (by kernel_rfl) (by kernel_rfl) (wnt_none rfl) (l0_index_ref rfl rfl rfl E23.und inf28 sz28 sd sd) ?_
        try simp only [Int.toNat_natCast]
        refine vb_one 14 rfl (by kernel_rfl) rfl ?_
        refine vo_totree 7 rfl (plain_ints _) ?_
        refine vo_stM ?_
        refine vo_weaktree 7 rfl ?_
        refine vo_stM ?_
        refine vo_put (p := .sl _ _ _) rfl rfl rfl rfl rfl rfl rfl hC rfl (by first | decide | (simp [refsOf]; done) | (simp [refsOf, SV.shift1, placeOf]; done)) inf28 sz28 sd ?_
        refine vo_stM ?_
        try simp only [List.set_set, set_intss]
        refine vo_done ⟨rfl, ?_⟩
        refine vb_nil (by kernel_rfl) ?_
        refine hK4 _ ?_
        refine vc_seq fun K39 hK39 => ?_
        refine vc_region ?_
        refine vo_load_varG rfl rfl rfl Try.underlying25 rfl inf25 sz25 rfl ?_
        refine vo_stM ?_
        refine vo_store_varG rfl rfl rfl rfl inf25 sz25 rfl ?_
        refine vo_stM ?_
        refine vo_nil ?_
        refine hK39 _ ?_
        refine vc_ret ?_
        change retQ _ _ _ _ _
        refine retQ_sel [2, 3] (srows := [_, _]) (.inr rfl) hC rfl rfl rfl rfl rfl rfl rfl ?_
        have hM := fun y => medX_of ⟨hb1, hb2, hb3⟩ ha1 ha2 hr1 hr2 x11.toNat y
        first
         | exact ⟨_, _, _, ⟨(hM y39).2.1, by omega⟩, rfl, rfl⟩
         | exact ⟨_, _, _, ⟨(hM 0).1, by omega⟩, rfl, rfl⟩
         | exact ⟨_, _, _, ⟨(hM 0).2.2, by omega⟩, rfl, rfl⟩
  ·try simp only [zq0, zq1, zq2, zq3, zq4, zq5, zq6, zq7, zq8, zq9, zqa, zqb, zqc, zqd, zqe, zqf] at hc2
   refine vc_skip ?_
   refine hK4 _ ?_
   refine vc_seq fun K40 hK40 => ?_
   refine vc_region ?_
   refine vo_load_varG rfl rfl rfl Try.underlying25 rfl inf25 sz25 rfl ?_
   refine vo_stM ?_
   refine vo_store_varG rfl rfl rfl rfl inf25 sz25 rfl ?_
   refine vo_stM ?_
   refine vo_nil ?_
   refine hK40 _ ?_
   refine vc_ret ?_
   change retQ _ _ _ _ _
   refine retQ_sel [2, 3] (srows := [_, _]) (.inr rfl) hC rfl rfl rfl rfl rfl rfl rfl ?_
   have hM := fun y => medX_of ⟨hb1, hb2, hb3⟩ ha1 ha2 hr1 hr2 x11.toNat y
   first
    | exact ⟨_, _, _, ⟨(hM y39).2.1, by omega⟩, rfl, rfl⟩
    | exact ⟨_, _, _, ⟨(hM 0).1, by omega⟩, rfl, rfl⟩
    | exact ⟨_, _, _, ⟨(hM 0).2.2, by omega⟩, rfl, rfl⟩

end Go.Vl

namespace Go.Vl
set_option linter.unusedVariables false
set_option linter.unusedSimpArgs false
open Go.Proofs

theorem absM_own {x : WorksM} {c : Int} (hv : VWorks x) (h0 : 0 ≤ c) (h1 : c < x.bases.length) : ∀ n ∈ x.abs.getD c.toNat [], n ∈ absM x c := by
  intro n hn
  rw [absM_yes ⟨hv, h0, by omega⟩]
  have h2 := abs_own hv (show c.toNat < x.bases.length by omega) hn
  exact selI_mem.2 ⟨h2, isAbs_rng hv (by omega) h2⟩
theorem absM_asc (x : WorksM) (c : Int) : (absM x c).Pairwise (· < ·) := by
  unfold absM; split
  · exact selI_asc _ _
  · exact .nil
set_option maxHeartbeats 4000000 in
theorem workOf_sat {nl : Option Bool} {c : List (Fin 256)} {p : Nat} (hc : c.length ≤ 2000) (hp : p < 980000) : SatAt Try.prog 61 [.ptr 0 0 0 0] [rdr nl c p] (fun res rows => ∃ (X : WorksM) (q : Nat) (f : Bool) (z : Int), (medX X ∧ q ≤ p + 230) ∧ res = [.ag [.pv f (.sl none 1 (X.bases.map ints)), .ref 1, .ref 2], i64 z] ∧ rows = [rdr nl c q, .tree 28 1 none none ((X.abs).map ints), .tree 28 1 none none ((X.real).map ints)]) := by
 refine sat_entry_G (rs := [(2, some (25, 3)), (3, none)]) Try.func61 rfl rfl (Nat.le_of_ble_eq_true rfl) (Nat.le_of_ble_eq_true rfl) (resTs2 ⟨_, _, Try.underlying25, rfl, inf25, sz25⟩ trivial) fun C hC => ?_
 rw [Try.ntmps61]
 replace hC : C.nb = 1 := hC
 refine vc_seq fun K1 hK1 => ?_
 refine vc_region ?_
 refine vo_alloc Z25 rfl ?_
 refine vo_stM ?_
 refine vo_assign_pv rfl rfl ?_
 refine vo_nil ?_
 refine hK1 _ ?_
 refine vc_seq fun K2 hK2 => ?_
 refine vc_region ?_
 refine vo_move_ptr rfl rfl ?_
 refine vo_call [0] Try.func55 rfl rfl rfl rfl rfl rfl rfl (anyWorks_sat hc (by omega)) ?_
 rintro _ _ ⟨X, q, f, ⟨hX, hq⟩, rfl, rfl⟩
 refine ⟨Nat.le_of_ble_eq_true rfl, ⟨rfl, rfl, rfl, rfl⟩, .inl rfl, ?_⟩
 refine vo_stM ?_
 have hX2 := hX
 obtain ⟨⟨hb1, hb2, hb3⟩, ⟨ha1, ha2⟩, hr1, hr2⟩ := hX2
 refine vo_alloc Z25 rfl ?_
 refine vo_stM ?_
 refine vo_store_varG rfl rfl rfl rfl inf25 sz25 rfl ?_
 refine vo_stM ?_
 refine vo_nil ?_
 refine hK2 _ ?_
 refine vc_seq fun K3 hK3 => ?_
 refine vc_drawBD [17] [0, 1, 2, 3, 4, 5, 6, 7, 8, 9, 10, 11, 12, 13, 14, 15, 16, 17, 18] [0, 1, 2, 3, 4, 5, 6, 7, 8, 9, 10, 11, 12, 13, 14, 15, 16, 17, 18] (by kernel_rfl) (by kernel_rfl) (by kernel_rfl) (by kernel_rfl) ?_
 change VLB [17] _ _ _ 19 _ _ _
 refine vb_light 0 [1, 2, 3, 4, 5, 6, 7, 8, 9, 10, 11, 12, 13, 14, 15, 16] rfl rfl rfl (by kernel_rfl) (by kernel_rfl) (by kernel_rfl) (by kernel_rfl) (by kernel_rfl) (wnt_none rfl) (lb_load_varG hC rfl rfl rfl rfl Try.underlying25 rfl inf25 sz25 rfl) ?_
 refine vb_stM ?_
 refine vb_light0 1 rfl rfl rfl (by kernel_rfl) (by kernel_rfl) (by kernel_rfl) (wnt_none rfl) (l0_move_ptr rfl) ?_
 refine vb_light0 2 rfl rfl rfl (by kernel_rfl) (by kernel_rfl) (by kernel_rfl) (wnt_none rfl) (l0_fieldAddr_ptr rfl Try.underlying25 rfl inf23 (by rw [sz23]; decide)) ?_
 try simp only [Nat.zero_add]
 refine vb_light 3 [0, 1, 2, 6, 7, 8, 9, 10, 11, 12, 13, 14] rfl rfl rfl (by kernel_rfl) (by kernel_rfl) (by kernel_rfl) (by kernel_rfl) (by kernel_rfl) (wnt_none rfl) (lb_load_var hC rfl rfl rfl rfl Try.underlying23 rfl rfl) ?_
 refine vb_light0 4 rfl rfl rfl (by kernel_rfl) (by kernel_rfl) (by kernel_rfl) (wnt_none rfl) (l0_len_pv rfl Try.underlying23) ?_
 refine vb_light0 5 rfl rfl rfl (by kernel_rfl) (by kernel_rfl) (by kernel_rfl) (wnt_none rfl) (l0_binI rfl rfl rfl sd) ?_
 refine vb_light0 6 rfl rfl rfl (by kernel_rfl) (by kernel_rfl) (by kernel_rfl) (wnt_none rfl) (l0_move_ptr rfl) ?_
 refine vb_light0 7 rfl rfl rfl (by kernel_rfl) (by kernel_rfl) (by kernel_rfl) (wnt_none rfl) (l0_fieldAddr_ptr rfl Try.underlying25 rfl inf23 (by rw [sz23]; decide)) ?_
 try simp only [Nat.zero_add]
 refine vb_light 8 [0, 1, 2, 3, 4, 5, 6, 7, 11, 12, 13, 14] rfl rfl rfl (by kernel_rfl) (by kernel_rfl) (by kernel_rfl) (by kernel_rfl) (by kernel_rfl) (wnt_none rfl) (lb_load_var hC rfl rfl rfl rfl Try.underlying23 rfl rfl) ?_
 refine vb_light0 9 rfl rfl rfl (by kernel_rfl) (by kernel_rfl) (by kernel_rfl) (wnt_none rfl) (l0_len_pv rfl Try.underlying23) ?_
 refine vb_light0 11 rfl rfl rfl (by kernel_rfl) (by kernel_rfl) (by kernel_rfl) (wnt_none rfl) (l0_fieldAddr_ptr rfl Try.underlying25 rfl inf23 (by rw [sz23]; decide)) ?_
 try simp only [Nat.zero_add]
 refine vb_light 12 [0, 1, 2, 3, 4, 5, 6, 7, 8, 9, 10, 11] rfl rfl rfl (by kernel_rfl) (by kernel_rfl) (by kernel_rfl) (by kernel_rfl) (by kernel_rfl) (wnt_none rfl) (lb_load_var hC rfl rfl rfl rfl Try.underlying23 rfl rfl) ?_
 refine vb_light0 13 rfl rfl rfl (by kernel_rfl) (by kernel_rfl) (by kernel_rfl) (wnt_none rfl) (l0_len_pv rfl Try.underlying23) ?_
 refine vb_light0 14 rfl rfl rfl (by kernel_rfl) (by kernel_rfl) (by kernel_rfl) (wnt_none rfl) (l0_binI rfl rfl rfl sd) ?_
 refine vb_any1 10 (by kernel_rfl) ?_
 refine sb_call 10 [0] hC rfl rfl (wnt_none rfl) Try.func74 rfl rfl rfl rfl rfl rfl rfl (pick_sat hc (by omega)) ?_
 rintro _ _ ⟨x17, ⟨hx170, hx171⟩, rfl, rfl⟩
 refine ⟨Nat.le_of_ble_eq_true rfl, ⟨rfl, rfl, rfl, rfl⟩, .inl rfl, ?_⟩
 refine vb_stM ?_
 refine vb_ext 15 rfl (by kernel_rfl) rfl (xt_buildSlice E28 rfl rfl rfl rfl) ?_
 refine vb_stM ?_
 refine vb_expose 5 (by omega) rfl ?_
 refine vb_stM ?_
 refine vb_weaken 22 rfl ?_
 refine vb_stM ?_
 refine vb_any1 16 (by kernel_rfl) ?_
 refine sb_call 16 [0] hC rfl rfl (wnt_none rfl) Try.func98 rfl rfl rfl rfl rfl rfl rfl (one_sat (list := [_,_,_,_,_]) hc (by omega) (by simp) (by simp)) ?_
 rintro _ _ ⟨y23, hy23, rfl, rfl⟩
 refine ⟨Nat.le_of_ble_eq_true rfl, ⟨rfl, rfl, rfl, rfl⟩, .inl rfl, ?_⟩
 refine vb_stM ?_
 refine vb_one 17 rfl (by kernel_rfl) rfl ?_
 refine vo_store_varG rfl rfl rfl rfl inf25 sz25 rfl ?_
 refine vo_stM ?_
 refine vo_done ⟨rfl, ?_⟩
 refine vb_light0 18 rfl rfl rfl (by kernel_rfl) (by kernel_rfl) (by kernel_rfl) (wnt_none rfl) (l0_assign_pv rfl) ?_
 refine vb_nil (by kernel_rfl) ?_
 refine hK3 _ ?_
 refine vc_ret ?_
 change retQ _ _ _ _ _
 refine retQ_sel [2, 3] (srows := [_, _]) (.inr rfl) hC rfl rfl rfl rfl rfl rfl rfl ?_
 exact ⟨X, _, _, _, ⟨hX, by omega⟩, rfl, rfl⟩


theorem DrawAbstractOf_sat {nl : Option Bool} {c : List (Fin 256)} (hl : c.length < 1000000000) : SatAt Try.prog 23 [.pv false (.sl nl 1 (c.map byteP))] [] (fun res rows => ∃ (X : WorksM) (f : Bool) (z : Int), medX X ∧ res = [.pv f (worksP X), i64 z] ∧ rows = []) := by
 refine sat_entry_G (rs := [(2, some (25, 3)), (3, none)]) Try.func23 rfl rfl (Nat.le_of_ble_eq_true rfl) (Nat.le_of_ble_eq_true rfl) (resTs2 ⟨_, _, Try.underlying25, rfl, inf25, sz25⟩ trivial) fun C hC => ?_
 rw [Try.ntmps23]
 replace hC : C.nb = 0 := hC
 refine vc_seq fun K1 hK1 => ?_
 refine vc_region ?_
 refine vo_alloc Z25 rfl ?_
 refine vo_stM ?_
 refine vo_assign_pv rfl rfl ?_
 refine vo_nil ?_
 refine hK1 _ ?_
 refine vc_seq fun K2 hK2 => ?_
 refine vc_region ?_
 refine vo_move_pv rfl rfl ?_
 refine vo_call [] Try.func56 rfl rfl rfl rfl rfl rfl rfl (newReader_sat (by omega)) ?_
 rintro _ _ ⟨nl2, c2, hc, rfl, rfl⟩
 refine ⟨Nat.le_of_ble_eq_true rfl, ⟨rfl, rfl, rfl, rfl⟩, .inl rfl, ?_⟩
 refine vo_stM ?_
 refine vo_call [1] Try.func61 rfl rfl rfl rfl rfl rfl rfl (workOf_sat hc (by omega)) ?_
 rintro _ _ ⟨X, q, f, z, ⟨hX, hq⟩, rfl, rfl⟩
 refine ⟨Nat.le_of_ble_eq_true rfl, ⟨rfl, rfl, rfl, rfl⟩, .inl rfl, ?_⟩
 refine vo_stM ?_
 refine vo_extract rfl rfl rfl ?_
 refine vo_extract rfl rfl rfl ?_
 refine vo_store_varG rfl rfl rfl rfl inf25 sz25 rfl ?_
 refine vo_stM ?_
 refine vo_assign_pv rfl rfl ?_
 refine vo_nil ?_
 refine hK2 _ ?_
 refine vc_treeown 2 (by omega) rfl ?_
 refine vc_stM ?_
 refine vc_expose 2 (by omega) rfl ?_
 refine vc_stM ?_
 refine vc_treeown 3 (by omega) rfl ?_
 refine vc_stM ?_
 refine vc_expose 3 (by omega) rfl ?_
 refine vc_stM ?_
 refine vc_ret ?_
 change retQ _ _ _ _ _
 refine retQ_sel [] (srows := []) (.inr rfl) hC rfl rfl rfl rfl rfl rfl rfl ?_
 exact ⟨X, _, z, hX, rfl, rfl⟩


theorem FnAbstractOf_sat {nl : Option Bool} {code : List (Fin 256)} : SatAt Try.prog 5 [.pv false (.sl nl 1 (code.map byteP))] [] (fun res rows => res = [bo true] ∧ rows = []) := by
 refine sat_entry_G (rs := [(2, none)]) Try.func5 rfl rfl (Nat.le_of_ble_eq_true rfl) (Nat.le_of_ble_eq_true rfl) (resTs1 trivial) fun C hC => ?_
 rw [Try.ntmps5]
 replace hC : C.nb = 0 := hC
 refine vc_seq fun K1 hK1 => ?_
 refine vc_region ?_
 refine vo_assign_pv rfl rfl ?_
 refine vo_nil ?_
 refine hK1 _ ?_
 refine vc_seq fun K2 hK2 => ?_
 refine vc_seq fun K3 hK3 => ?_
 refine vc_region ?_
 refine vo_move_pv rfl rfl ?_
 refine vo_len_pv rfl rfl Try.underlying22 ?_
 refine vo_binI rfl rfl rfl rfl trivial ?_
 refine vo_nil ?_
 refine hK3 _ ?_
 refine vc_cond rfl (fun hc1 => ?_) (fun hc1 => ?_)
 ·try simp only [zq0, zq1, zq2, zq3, zq4, zq5, zq6, zq7, zq8, zq9, zqa, zqb, zqc, zqd, zqe, zqf] at hc1
  refine vc_seq fun K4 hK4 => ?_
  refine vc_region ?_
  refine vo_assign_pv rfl rfl ?_
  refine vo_nil ?_
  refine hK4 _ ?_
  refine vc_ret ?_
  (try clear hK4); (try clear hK3); (try clear hK2); (try clear hK1)
  change retQ _ _ _ _ _
  refine retQ_sel [] (srows := []) (.inr rfl) hC rfl rfl rfl rfl rfl rfl rfl ?_
  first | exact ⟨rfl, rfl⟩ | (exfalso; simp_all; done) | (exfalso; omega) | (refine ⟨(congrArg (fun b => [bo b]) (?_ : _ = true) : [bo _] = [bo true]), rfl⟩; first | (have := hb1 has; simp_all; done) | simp_all | (simp; omega))
 ·try simp only [zq0, zq1, zq2, zq3, zq4, zq5, zq6, zq7, zq8, zq9, zqa, zqb, zqc, zqd, zqe, zqf] at hc1
  refine vc_skip ?_
  refine hK2 _ ?_
  refine vc_seq fun K5 hK5 => ?_
  refine vc_region ?_
  refine vo_move_pv rfl rfl ?_
  refine vo_call0 Try.func23 rfl rfl rfl rfl (DrawAbstractOf_sat (by omega)) ?_
  rintro _ _ ⟨X, f, z, hX, rfl, rfl⟩
  refine ⟨rfl, rfl, .inl rfl, ?_⟩
  refine vo_stM ?_
  have hX2 := hX
  obtain ⟨⟨hb1, hb2, hb3⟩, ⟨ha1, ha2⟩, hr1, hr2⟩ := hX2
  refine vo_move rfl ?_
  refine vo_stM ?_
  refine vo_extract rfl rfl rfl ?_
  refine vo_extract rfl rfl rfl ?_
  refine vo_alloc Z25 rfl ?_
  refine vo_stM ?_
  refine vo_store_varS rfl rfl rfl inf25 sz25 rfl ?_
  refine vo_stM ?_
  refine vo_assign_pv rfl rfl ?_
  refine vo_nil ?_
  refine hK5 _ ?_
  refine vc_seq fun K6 hK6 => ?_
  refine vc_region ?_
  refine vo_load_varS rfl rfl rfl Try.underlying25 rfl inf25 sz25 rfl rfl ?_
  refine vo_move_pv rfl rfl ?_
  refine vo_call [] Try.func24 rfl rfl rfl rfl rfl rfl rfl (implAbstractOf_sat hX.sk) ?_
  rintro _ _ ⟨nlo, rfl, rfl⟩
  refine ⟨Nat.le_of_ble_eq_true rfl, ⟨rfl, rfl, rfl, rfl⟩, .inl rfl, ?_⟩
  refine vo_stM ?_
  refine vo_expose 1 (by omega) rfl ?_
  refine vo_stM ?_
  refine vo_weaken 16 rfl ?_
  refine vo_stM ?_
  refine vo_assign_pv rfl rfl ?_
  refine vo_nil ?_
  refine hK6 _ ?_
  refine vc_seq fun K7 hK7 => ?_
  refine vc_seq fun K8 hK8 => ?_
  refine vc_region ?_
  refine vo_move_pv rfl rfl ?_
  refine vo_load_varS rfl rfl rfl Try.underlying25 rfl inf25 sz25 rfl rfl ?_
  refine vo_move_pv rfl rfl ?_
  refine vo_call0 Try.func26 rfl rfl rfl rfl (specAbstractOf_sat hX.sk) ?_
  rintro _ _ ⟨nlp, rfl, rfl⟩
  refine ⟨rfl, rfl, .inl rfl, ?_⟩
  refine vo_stM ?_
  refine vo_call0 Try.func25 rfl rfl rfl rfl (equalInts_sat (a := absM X z) (b := absM X z) (by have := absM_len (x := X) (c := z); omega) (by have := absM_len (x := X) (c := z); omega)) ?_
  rintro _ _ ⟨rfl, rfl⟩
  refine ⟨rfl, rfl, .inl rfl, ?_⟩
  refine vo_stM ?_
  refine vo_not rfl rfl ?_
  refine vo_move_pv rfl rfl ?_
  refine vo_split 23 rfl (fun hg2 => ?_) (fun hg2 => ?_)
  ·try simp only [zq0, zq1, zq2, zq3, zq4, zq5, zq6, zq7, zq8, zq9, zqa, zqb, zqc, zqd, zqe, zqf] at hg2
   refine vo_guard_off rfl rfl rfl rfl rfl ?_
   refine vo_guard_off rfl rfl rfl rfl rfl ?_
   refine vo_guard_off rfl rfl rfl rfl rfl ?_
   refine vo_pick_t rfl rfl ?_
   refine vo_move_pv rfl rfl ?_
   refine vo_guard_off rfl rfl rfl rfl rfl ?_
   refine vo_guard_off rfl rfl rfl rfl rfl ?_
   refine vo_pick_t rfl rfl ?_
   refine vo_move_pv rfl rfl ?_
   refine vo_guard_off rfl rfl rfl rfl rfl ?_
   refine vo_guard_off rfl rfl rfl rfl rfl ?_
   refine vo_guard_off rfl rfl rfl rfl rfl ?_
   refine vo_guard_off rfl rfl rfl rfl rfl ?_
   refine vo_guard_off rfl rfl rfl rfl rfl ?_
   refine vo_pick_t rfl rfl ?_
   refine vo_nil ?_
   refine hK8 _ ?_
   refine vc_cond_t rfl ?_
   refine vc_seq fun K9 hK9 => ?_
   refine vc_region ?_
   refine vo_move_pv rfl rfl ?_
   refine vo_load_varS rfl rfl rfl Try.underlying25 rfl inf25 sz25 rfl rfl ?_
   refine vo_move_pv rfl rfl ?_
   refine vo_call0 Try.func26 rfl rfl rfl rfl (specAbstractOf_sat hX.sk) ?_
   rintro _ _ ⟨nlp, rfl, rfl⟩
   refine ⟨rfl, rfl, .inl rfl, ?_⟩
   refine vo_stM ?_
   refine vo_call0 Try.func25 rfl rfl rfl rfl (equalInts_sat (a := absM X z) (b := absM X z) (by have := absM_len (x := X) (c := z); omega) (by have := absM_len (x := X) (c := z); omega)) ?_
   rintro _ _ ⟨rfl, rfl⟩
   refine ⟨rfl, rfl, .inl rfl, ?_⟩
   refine vo_stM ?_
   refine vo_assign_pv rfl rfl ?_
   refine vo_nil ?_
   refine hK9 _ ?_
   refine vc_ret ?_
   (try clear hK9); (try clear hK8); (try clear hK7); (try clear hK6); (try clear hK5); (try clear hK4); (try clear hK3); (try clear hK2); (try clear hK1)
   change retQ _ _ _ _ _
   refine retQ_sel [] (srows := []) (.inr rfl) hC rfl rfl rfl rfl rfl rfl rfl ?_
   first | exact ⟨rfl, rfl⟩ | (exfalso; simp_all; done) | (exfalso; omega) | (refine ⟨(congrArg (fun b => [bo b]) (?_ : _ = true) : [bo _] = [bo true]), rfl⟩; first | (have := hb1 has; simp_all; done) | simp_all | (simp; omega))
  ·try simp only [zq0, zq1, zq2, zq3, zq4, zq5, zq6, zq7, zq8, zq9, zqa, zqb, zqc, zqd, zqe, zqf] at hg2
   refine vo_guard_on rfl rfl rfl ?_
   refine vo_load_varS rfl rfl rfl Try.underlying25 rfl inf25 sz25 rfl rfl ?_
   refine vo_guard_on rfl rfl rfl ?_
   refine vo_call0 Try.func16 rfl rfl rfl rfl (implValidWorks_sat hX.sk) ?_
   rintro _ _ ⟨rfl, rfl⟩
   refine ⟨rfl, rfl, .inl rfl, ?_⟩
   refine vo_stM ?_
   refine vo_guard_on rfl rfl rfl ?_
   refine vo_not rfl rfl ?_
   refine vo_pick_f rfl rfl ?_
   refine vo_move_pv rfl rfl ?_
   refine vo_split 28 rfl (fun hg3 => ?_) (fun hg3 => ?_)
   ·try simp only [zq0, zq1, zq2, zq3, zq4, zq5, zq6, zq7, zq8, zq9, zqa, zqb, zqc, zqd, zqe, zqf] at hg3
    refine vo_guard_off rfl rfl rfl rfl rfl ?_
    refine vo_guard_off rfl rfl rfl rfl rfl ?_
    refine vo_pick_t rfl rfl ?_
    refine vo_move_pv rfl rfl ?_
    refine vo_guard_off rfl rfl rfl rfl rfl ?_
    refine vo_guard_off rfl rfl rfl rfl rfl ?_
    refine vo_guard_off rfl rfl rfl rfl rfl ?_
    refine vo_guard_off rfl rfl rfl rfl rfl ?_
    refine vo_guard_off rfl rfl rfl rfl rfl ?_
    refine vo_pick_t rfl rfl ?_
    refine vo_nil ?_
    refine hK8 _ ?_
    refine vc_cond_t rfl ?_
    refine vc_seq fun K10 hK10 => ?_
    refine vc_region ?_
    refine vo_move_pv rfl rfl ?_
    refine vo_load_varS rfl rfl rfl Try.underlying25 rfl inf25 sz25 rfl rfl ?_
    refine vo_move_pv rfl rfl ?_
    refine vo_call0 Try.func26 rfl rfl rfl rfl (specAbstractOf_sat hX.sk) ?_
    rintro _ _ ⟨nlp, rfl, rfl⟩
    refine ⟨rfl, rfl, .inl rfl, ?_⟩
    refine vo_stM ?_
    refine vo_call0 Try.func25 rfl rfl rfl rfl (equalInts_sat (a := absM X z) (b := absM X z) (by have := absM_len (x := X) (c := z); omega) (by have := absM_len (x := X) (c := z); omega)) ?_
    rintro _ _ ⟨rfl, rfl⟩
    refine ⟨rfl, rfl, .inl rfl, ?_⟩
    refine vo_stM ?_
    refine vo_assign_pv rfl rfl ?_
    refine vo_nil ?_
    refine hK10 _ ?_
    refine vc_ret ?_
    (try clear hK10); (try clear hK9); (try clear hK8); (try clear hK7); (try clear hK6); (try clear hK5); (try clear hK4); (try clear hK3); (try clear hK2); (try clear hK1)
    change retQ _ _ _ _ _
    refine retQ_sel [] (srows := []) (.inr rfl) hC rfl rfl rfl rfl rfl rfl rfl ?_
    first | exact ⟨rfl, rfl⟩ | (exfalso; simp_all; done) | (exfalso; omega) | (refine ⟨(congrArg (fun b => [bo b]) (?_ : _ = true) : [bo _] = [bo true]), rfl⟩; first | (have := hb1 has; simp_all; done) | simp_all | (simp; omega))
   ·try simp only [zq0, zq1, zq2, zq3, zq4, zq5, zq6, zq7, zq8, zq9, zqa, zqb, zqc, zqd, zqe, zqf] at hg3
    refine vo_guard_on rfl rfl rfl ?_
    refine vo_move_pv rfl rfl ?_
    refine vo_guard_on rfl rfl rfl ?_
    refine vo_binI rfl rfl rfl rfl trivial ?_
    refine vo_pick_f rfl rfl ?_
    refine vo_move_pv rfl rfl ?_
    refine vo_split 32 rfl (fun hg4 => ?_) (fun hg4 => ?_)
    ·try simp only [zq0, zq1, zq2, zq3, zq4, zq5, zq6, zq7, zq8, zq9, zqa, zqb, zqc, zqd, zqe, zqf] at hg4
     refine vo_guard_off rfl rfl rfl rfl rfl ?_
     refine vo_guard_off rfl rfl rfl rfl rfl ?_
     refine vo_guard_off rfl rfl rfl rfl rfl ?_
     refine vo_guard_off rfl rfl rfl rfl rfl ?_
     refine vo_guard_off rfl rfl rfl rfl rfl ?_
     refine vo_pick_t rfl rfl ?_
     refine vo_nil ?_
     refine hK8 _ ?_
     refine vc_cond_t rfl ?_
     refine vc_seq fun K11 hK11 => ?_
     refine vc_region ?_
     refine vo_move_pv rfl rfl ?_
     refine vo_load_varS rfl rfl rfl Try.underlying25 rfl inf25 sz25 rfl rfl ?_
     refine vo_move_pv rfl rfl ?_
     refine vo_call0 Try.func26 rfl rfl rfl rfl (specAbstractOf_sat hX.sk) ?_
     rintro _ _ ⟨nlp, rfl, rfl⟩
     refine ⟨rfl, rfl, .inl rfl, ?_⟩
     refine vo_stM ?_
     refine vo_call0 Try.func25 rfl rfl rfl rfl (equalInts_sat (a := absM X z) (b := absM X z) (by have := absM_len (x := X) (c := z); omega) (by have := absM_len (x := X) (c := z); omega)) ?_
     rintro _ _ ⟨rfl, rfl⟩
     refine ⟨rfl, rfl, .inl rfl, ?_⟩
     refine vo_stM ?_
     refine vo_assign_pv rfl rfl ?_
     refine vo_nil ?_
     refine hK11 _ ?_
     refine vc_ret ?_
     (try clear hK11); (try clear hK10); (try clear hK9); (try clear hK8); (try clear hK7); (try clear hK6); (try clear hK5); (try clear hK4); (try clear hK3); (try clear hK2); (try clear hK1)
     change retQ _ _ _ _ _
     refine retQ_sel [] (srows := []) (.inr rfl) hC rfl rfl rfl rfl rfl rfl rfl ?_
     first | exact ⟨rfl, rfl⟩ | (exfalso; simp_all; done) | (exfalso; omega) | (refine ⟨(congrArg (fun b => [bo b]) (?_ : _ = true) : [bo _] = [bo true]), rfl⟩; first | (have := hb1 has; simp_all; done) | simp_all | (simp; omega))
    ·try simp only [zq0, zq1, zq2, zq3, zq4, zq5, zq6, zq7, zq8, zq9, zqa, zqb, zqc, zqd, zqe, zqf] at hg4
     refine vo_guard_on rfl rfl rfl ?_
     refine vo_move_pv rfl rfl ?_
     refine vo_guard_on rfl rfl rfl ?_
     refine vo_fieldAddr_ptr rfl rfl Try.underlying25 rfl inf23 (by rw [sz23]; decide) ?_
     try simp only [Nat.zero_add]
     refine vo_guard_on rfl rfl rfl ?_
     refine vo_load_var rfl rfl rfl Try.underlying23 rfl rfl ?_
     refine vo_guard_on rfl rfl rfl ?_
     refine vo_len_pv rfl rfl Try.underlying23 ?_
     refine vo_guard_on rfl rfl rfl ?_
     refine vo_binI rfl rfl rfl rfl trivial ?_
     refine vo_pick_f rfl rfl ?_
     refine vo_nil ?_
     refine hK8 _ ?_
     refine vc_cond rfl (fun hc5 => ?_) (fun hc5 => ?_)
     ·try simp only [zq0, zq1, zq2, zq3, zq4, zq5, zq6, zq7, zq8, zq9, zqa, zqb, zqc, zqd, zqe, zqf] at hc5
      refine vc_seq fun K12 hK12 => ?_
      refine vc_region ?_
      refine vo_move_pv rfl rfl ?_
      refine vo_load_varS rfl rfl rfl Try.underlying25 rfl inf25 sz25 rfl rfl ?_
      refine vo_move_pv rfl rfl ?_
      refine vo_call0 Try.func26 rfl rfl rfl rfl (specAbstractOf_sat hX.sk) ?_
      rintro _ _ ⟨nlp, rfl, rfl⟩
      refine ⟨rfl, rfl, .inl rfl, ?_⟩
      refine vo_stM ?_
      refine vo_call0 Try.func25 rfl rfl rfl rfl (equalInts_sat (a := absM X z) (b := absM X z) (by have := absM_len (x := X) (c := z); omega) (by have := absM_len (x := X) (c := z); omega)) ?_
      rintro _ _ ⟨rfl, rfl⟩
      refine ⟨rfl, rfl, .inl rfl, ?_⟩
      refine vo_stM ?_
      refine vo_assign_pv rfl rfl ?_
      refine vo_nil ?_
      refine hK12 _ ?_
      refine vc_ret ?_
      (try clear hK12); (try clear hK11); (try clear hK10); (try clear hK9); (try clear hK8); (try clear hK7); (try clear hK6); (try clear hK5); (try clear hK4); (try clear hK3); (try clear hK2); (try clear hK1)
      change retQ _ _ _ _ _
      refine retQ_sel [] (srows := []) (.inr rfl) hC rfl rfl rfl rfl rfl rfl rfl ?_
      first | exact ⟨rfl, rfl⟩ | (exfalso; simp_all; done) | (exfalso; omega) | (refine ⟨(congrArg (fun b => [bo b]) (?_ : _ = true) : [bo _] = [bo true]), rfl⟩; first | (have := hb1 has; simp_all; done) | simp_all | (simp; omega))
     ·try simp only [zq0, zq1, zq2, zq3, zq4, zq5, zq6, zq7, zq8, zq9, zqa, zqb, zqc, zqd, zqe, zqf] at hc5
      have hz := absM_own (x := X) (c := z) (by assumption) (by omega) (by omega)
      have has := absM_asc X z
      have hak := getD_all (p := fun l : List Int => l.length ≤ 7) ha2 [] (by simp) z.toNat
      refine vc_skip ?_
      refine hK7 _ ?_
      refine vc_seq fun K13 hK13 => ?_
      refine vc_region ?_
      refine vo_load_varS rfl rfl rfl Try.underlying25 rfl inf25 sz25 rfl rfl ?_
      refine vo_move_pv rfl rfl ?_
      refine vo_call [] Try.func27 rfl rfl rfl rfl rfl rfl rfl (implByBases_sat hX.sk) ?_
      rintro _ _ ⟨Rb, nlb, rfl, rfl⟩
      refine ⟨Nat.le_of_ble_eq_true rfl, ⟨rfl, rfl, rfl, rfl⟩, .inl rfl, ?_⟩
      refine vo_stM ?_
      refine vo_expose 2 (by omega) rfl ?_
      refine vo_stM ?_
      refine vo_weaken 46 rfl ?_
      refine vo_stM ?_
      refine vo_move_pv rfl rfl ?_
      refine vo_call0 Try.func25 rfl rfl rfl rfl (equalInts_sat (a := absM X z) (b := absM X z) (by have := absM_len (x := X) (c := z); omega) (by have := absM_len (x := X) (c := z); omega)) ?_
      rintro _ _ ⟨rfl, rfl⟩
      refine ⟨rfl, rfl, .inl rfl, ?_⟩
      refine vo_stM ?_
      refine vo_move_pv rfl rfl ?_
      refine vo_split 49 rfl (fun hg6 => ?_) (fun hg6 => ?_)
      ·try simp only [zq0, zq1, zq2, zq3, zq4, zq5, zq6, zq7, zq8, zq9, zqa, zqb, zqc, zqd, zqe, zqf] at hg6
       refine vo_guard_on rfl rfl rfl ?_
       refine vo_move_pv rfl rfl ?_
       refine vo_guard_on rfl rfl rfl ?_
       refine vo_call0 Try.func28 rfl rfl rfl rfl (ascends_sat (list := absM X z) (by have := absM_len (x := X) (c := z); omega)) ?_
       rintro _ _ ⟨b1, hb1, rfl, rfl⟩
       refine ⟨rfl, rfl, .inl rfl, ?_⟩
       refine vo_stM ?_
       refine vo_pick_t rfl rfl ?_
       refine vo_move_pv rfl rfl ?_
       refine vo_split 53 rfl (fun hg7 => ?_) (fun hg7 => ?_)
       ·try simp only [zq0, zq1, zq2, zq3, zq4, zq5, zq6, zq7, zq8, zq9, zqa, zqb, zqc, zqd, zqe, zqf] at hg7
        refine vo_guard_on rfl rfl rfl ?_
        refine vo_fieldAddr_ptr rfl rfl Try.underlying25 rfl inf23 (by rw [sz23]; decide) ?_
        try simp only [Nat.zero_add]
        refine vo_guard_on rfl rfl rfl ?_
        refine vo_load_var rfl rfl rfl Try.underlying23 rfl rfl ?_
        refine vo_guard_on rfl rfl rfl ?_
        refine vo_move_pv rfl rfl ?_
        refine vo_guard_on rfl rfl rfl ?_
        refine vo_index_pv (.sl none 1 []) rfl rfl rfl E23.und inf28 sz28 sd sd ?_
        simp only [Int.toNat_natCast, Int.toNat_zero, getD_ints, getD_intss, getD_bools, getD_bytes, PV.cells, getD_ops, getD_pairs, getD_insts, getD_attrs, getD_attrss, getD_objs, getD_ordP]
        refine vo_guard_on rfl rfl rfl ?_
        refine vo_load_adr rfl rfl Try.underlying28 rfl ?_
        refine vo_guard_on rfl rfl rfl ?_
        refine vo_move_pv rfl rfl ?_
        refine vo_guard_on rfl rfl rfl ?_
        refine vo_call0 Try.func29 rfl rfl rfl rfl (within_sat (a := X.abs.getD z.toNat []) (b := absM X z) (by omega) (by have := absM_len (x := X) (c := z); omega)) ?_
        rintro _ _ ⟨rfl, rfl⟩
        refine ⟨rfl, rfl, .inl rfl, ?_⟩
        refine vo_stM ?_
        refine vo_pick_t rfl rfl ?_
        refine vo_assign_pv rfl rfl ?_
        refine vo_nil ?_
        refine hK13 _ ?_
        refine vc_ret ?_
        (try clear hK13); (try clear hK12); (try clear hK11); (try clear hK10); (try clear hK9); (try clear hK8); (try clear hK7); (try clear hK6); (try clear hK5); (try clear hK4); (try clear hK3); (try clear hK2); (try clear hK1)
        change retQ _ _ _ _ _
        refine retQ_sel [] (srows := []) (.inr rfl) hC rfl rfl rfl rfl rfl rfl rfl ?_
        first | exact ⟨rfl, rfl⟩ | (exfalso; simp_all; done) | (exfalso; omega) | (refine ⟨(congrArg (fun b => [bo b]) (?_ : _ = true) : [bo _] = [bo true]), rfl⟩; first | (have := hb1 has; simp_all; done) | simp_all | (simp; omega))
       ·try simp only [zq0, zq1, zq2, zq3, zq4, zq5, zq6, zq7, zq8, zq9, zqa, zqb, zqc, zqd, zqe, zqf] at hg7
        refine vo_guard_off rfl rfl rfl rfl rfl ?_
        refine vo_guard_off rfl rfl rfl rfl rfl ?_
        refine vo_guard_off rfl rfl rfl rfl rfl ?_
        refine vo_guard_off rfl rfl rfl rfl rfl ?_
        refine vo_guard_off rfl rfl rfl rfl rfl ?_
        refine vo_guard_off rfl rfl rfl rfl rfl ?_
        refine vo_guard_off rfl rfl rfl rfl rfl ?_
        refine vo_pick_f rfl rfl ?_
        refine vo_assign_pv rfl rfl ?_
        refine vo_nil ?_
        refine hK13 _ ?_
        refine vc_ret ?_
        (try clear hK13); (try clear hK12); (try clear hK11); (try clear hK10); (try clear hK9); (try clear hK8); (try clear hK7); (try clear hK6); (try clear hK5); (try clear hK4); (try clear hK3); (try clear hK2); (try clear hK1)
        change retQ _ _ _ _ _
        refine retQ_sel [] (srows := []) (.inr rfl) hC rfl rfl rfl rfl rfl rfl rfl ?_
        first | exact ⟨rfl, rfl⟩ | (exfalso; simp_all; done) | (exfalso; omega) | (refine ⟨(congrArg (fun b => [bo b]) (?_ : _ = true) : [bo _] = [bo true]), rfl⟩; first | (have := hb1 has; simp_all; done) | simp_all | (simp; omega))
      ·try simp only [zq0, zq1, zq2, zq3, zq4, zq5, zq6, zq7, zq8, zq9, zqa, zqb, zqc, zqd, zqe, zqf] at hg6
       refine vo_guard_off rfl rfl rfl rfl rfl ?_
       refine vo_guard_off rfl rfl rfl rfl rfl ?_
       refine vo_pick_f rfl rfl ?_
       refine vo_move_pv rfl rfl ?_
       refine vo_guard_off rfl rfl rfl rfl rfl ?_
       refine vo_guard_off rfl rfl rfl rfl rfl ?_
       refine vo_guard_off rfl rfl rfl rfl rfl ?_
       refine vo_guard_off rfl rfl rfl rfl rfl ?_
       refine vo_guard_off rfl rfl rfl rfl rfl ?_
       refine vo_guard_off rfl rfl rfl rfl rfl ?_
       refine vo_guard_off rfl rfl rfl rfl rfl ?_
       refine vo_pick_f rfl rfl ?_
       refine vo_assign_pv rfl rfl ?_
       refine vo_nil ?_
       refine hK13 _ ?_
       refine vc_ret ?_
       (try clear hK13); (try clear hK12); (try clear hK11); (try clear hK10); (try clear hK9); (try clear hK8); (try clear hK7); (try clear hK6); (try clear hK5); (try clear hK4); (try clear hK3); (try clear hK2); (try clear hK1)
       change retQ _ _ _ _ _
       refine retQ_sel [] (srows := []) (.inr rfl) hC rfl rfl rfl rfl rfl rfl rfl ?_
       first | exact ⟨rfl, rfl⟩ | (exfalso; simp_all; done) | (exfalso; omega) | (refine ⟨(congrArg (fun b => [bo b]) (?_ : _ = true) : [bo _] = [bo true]), rfl⟩; first | (have := hb1 has; simp_all; done) | simp_all | (simp; omega))

end Go.Vl
