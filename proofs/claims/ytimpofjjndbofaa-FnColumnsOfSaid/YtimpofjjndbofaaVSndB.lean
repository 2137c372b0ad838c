/-
  Instructions on plain data, the second part: pointers, loads, parts of values. No condition.
-/
import Derived.Test.YtimpofjjndbofaaVSndA
namespace Go.Proofs.Ytimpofjjndbofaa
open Go.RowKit

theorem one_cells {w : World} {F : Cells} {m : Names} {d : D} {x : Value} (h : Fz w F m d x) (h1 : d.one = true) : x.oneCell' = true ∧ x.cells.toList = [x] := by
  cases h with
  | v m x => cases x <;> first | exact ⟨rfl, rfl⟩ | (simp [D.one, Value.oneCell'] at h1; done)
  | any m x => cases h1
  | agg => cases h1
  | tup => cases h1
  | _ => exact ⟨rfl, rfl⟩

theorem CellsOK.names {w : World} {F : Cells} {m m' : Names} {cs : List D} {us : List Value} (h : CellsOK w F m cs us) (hm : ∀ g p, m g = some p → m' g = some p) : CellsOK w F m' cs us := h.stable (Chg.refl w F noBlocks) hm
theorem none_le {m : Names} : ∀ g p, noNames g = some p → m g = some p := fun _ _ h => by cases h
theorem CellsOK.pure {w : World} {F : Cells} {m m' : Names} {cs : List D} {us : List Value} (h : CellsOK w F m cs us) (hp : D.purL cs = true) : CellsOK w F m' cs us :=
  ⟨h.len, h.one, fun j d u hd hu => (h.fz j d u hd hu).pure (D.purL_iff.1 hp d (List.mem_of_getElem? hd)) m'⟩

theorem CellsOK.setAll {w : World} {F : Cells} {m : Names} {cs vs : List D} {us xs : List Value} (h : CellsOK w F m cs us) (g : CellsOK w F m vs xs) (o : Nat) (hle : o + vs.length ≤ cs.length) :
    CellsOK w F m (D.setAll cs o vs) (us.take o ++ xs ++ us.drop (o + xs.length)) where
  len := by rw [D.setAll, setAll_length _ _ _ hle, setAll_length _ _ _ (by rw [g.len, h.len]; exact hle), h.len]
  one u hu := by
    obtain ⟨j, hj⟩ := List.mem_iff_getElem?.1 hu
    rw [setAll_get _ _ _ (by rw [g.len, h.len]; exact hle)] at hj
    split at hj
    · exact g.one u (List.mem_of_getElem? hj)
    · exact h.one u (List.mem_of_getElem? hj)
  fz j d u hd hu := by
    rw [D.setAll, setAll_get _ _ _ hle] at hd
    rw [setAll_get _ _ _ (by rw [g.len, h.len]; exact hle), g.len] at hu
    by_cases hin : o ≤ j ∧ j < o + vs.length
    · rw [if_pos hin] at hd hu; exact g.fz _ d u hd hu
    · rw [if_neg hin] at hd hu; exact h.fz _ d u hd hu
theorem CellsOK.append {w : World} {F : Cells} {m : Names} {cs ds : List D} {us vs : List Value} (h : CellsOK w F m cs us) (g : CellsOK w F m ds vs) : CellsOK w F m (cs ++ ds) (us ++ vs) where
  len := by rw [List.length_append, List.length_append, h.len, g.len]
  one u hu := (List.mem_append.1 hu).elim (h.one u) (g.one u)
  fz j d u hd hu := by
    by_cases hj : j < cs.length
    · rw [List.getElem?_append_left hj] at hd
      rw [List.getElem?_append_left (by rw [h.len]; exact hj)] at hu
      exact h.fz j d u hd hu
    · rw [List.getElem?_append_right (by omega)] at hd
      rw [List.getElem?_append_right (by rw [h.len]; omega), h.len] at hu
      exact g.fz _ d u hd hu
theorem CellsOK.nil {w : World} {F : Cells} {m : Names} : CellsOK w F m [] [] := ⟨rfl, (fun _ h => by cases h), fun _ _ _ h => by simp at h⟩

/-- A value's cells, as it is put into cells. -/
theorem asC_val {w : World} {F : Cells} {m : Names} {d : D} {x : Value} {n : Option Nat} (hf : Fz w F m d x) (h : D.asCok d n) : CellsOK w F m (D.asC d n) x.cells.toList := by
  cases n with
  | none =>
    obtain ⟨ho, hc⟩ := one_cells hf h
    refine ⟨by rw [hc]; rfl, fun u hu => ?_, fun j e u he hu => ?_⟩
    · rw [hc] at hu; obtain rfl := List.mem_singleton.1 hu; exact ho
    · rw [hc] at hu
      cases j with
      | zero =>
        obtain rfl : d = e := by simpa [D.asC] using he
        obtain rfl : x = u := by simpa using hu
        exact hf
      | succ j => simp at hu
  | some n =>
    cases d with
    | agg cs =>
      cases hf with
      | agg _ _ vs hl' h1 hr => exact ⟨hl', h1, hr⟩
    | _ => exact False.elim h

/-- The cells of a slice that stands still. -/
theorem Fz.slCells {w : World} {F : Cells} {m : Names} {s : Nat} {es : List D} {x : Value} (h : Fz w F m (.sl s es) x) :
    (es = [] ∧ ∃ a cap, x = .slice a 0 cap) ∨ ∃ (b off cap : Nat) (us : List Value), x = .slice (some ⟨b, off, none⟩) es.length cap ∧ es.length ≤ cap ∧ 0 < s ∧ (∀ (e : D), e ∈ es → e.cells.length = s) ∧ CellsOK w F noNames (D.flat es) us ∧
      ∀ j v, us[j]? = some v → w.cell? ⟨b, off + j, none⟩ = some v ∧ F b (off + j) := by
  cases h with
  | sl0 m s a cap => exact .inl ⟨rfl, a, cap, rfl⟩
  | sl m s es b off cap u hs hle hlen hu hr =>
    right
    have hget : ∀ (j : Nat) (v : Value), ((List.range (es.length * s)).map u)[j]? = some v → j < es.length * s ∧ v = u j := by
      intro j v hj
      rw [List.getElem?_map] at hj
      cases hr : (List.range (es.length * s))[j]? with
      | none => rw [hr] at hj; cases hj
      | some k =>
        obtain ⟨hlt, hk⟩ := List.getElem?_eq_some_iff.1 hr
        rw [hr] at hj
        have : j < es.length * s := by simpa using hlt
        have hk' : j = k := by simpa using hk
        subst hk'
        exact ⟨this, by simpa using hj.symm⟩
    refine ⟨b, off, cap, (List.range (es.length * s)).map u, rfl, hle, hs, hlen, ⟨by rw [flat_len hlen]; simp, fun v hv => ?_, fun j d v hd hv => ?_⟩, fun j v hv => ?_⟩
    · obtain ⟨k, hk, rfl⟩ := List.mem_map.1 hv
      exact (hu k (List.mem_range.1 hk)).2.2
    · obtain ⟨_, rfl⟩ := hget j v hv; exact hr j d hd
    · obtain ⟨hj, rfl⟩ := hget j v hv; exact ⟨(hu j hj).1, (hu j hj).2.1⟩

theorem Fz.ofCells {w : World} {F : Cells} {m : Names} {s : Nat} {es : List D} {b off cap : Nat} {us : List Value} (hs : 0 < s) (hle : es.length ≤ cap) (hlen : ∀ (e : D), e ∈ es → e.cells.length = s) (hc : CellsOK w F noNames (D.flat es) us)
    (hu : ∀ j v, us[j]? = some v → w.cell? ⟨b, off + j, none⟩ = some v ∧ F b (off + j)) : Fz w F m (.sl s es) (.slice (some ⟨b, off, none⟩) es.length cap) := by
  have hl : us.length = es.length * s := by rw [hc.len, flat_len hlen]
  refine .sl m s es b off cap (fun k => us.getD k undef) hs hle hlen (fun k hk => ?_) (fun k d hd => ?_)
  · have he : us[k]? = some (us.getD k undef) := by rw [List.getD_eq_getElem?_getD, List.getElem?_eq_getElem (by omega)]; rfl
    exact ⟨(hu k _ he).1, (hu k _ he).2, hc.one _ (List.mem_of_getElem? he)⟩
  · have hk : k < us.length := by rw [hc.len]; exact (List.getElem?_eq_some_iff.1 hd).1
    exact hc.fz k d _ hd (by rw [List.getD_eq_getElem?_getD, List.getElem?_eq_getElem hk]; rfl)

/-- The cells of an element of a row of cells. -/
theorem elem_cells {w : World} {F : Cells} {m : Names} {s : Nat} {es : List D} {us : List Value} (hlen : ∀ (e : D), e ∈ es → e.cells.length = s) (hc : CellsOK w F m (D.flat es) us) {i : Nat} (hi : i < es.length) :
    (es.getD i .any).cells.length = s ∧ CellsOK w F m (es.getD i .any).cells ((us.drop (i * s)).take s) := by
  have hget : es.getD i .any = es[i] := by simp [List.getD_eq_getElem?_getD, hi]
  have hel := hlen _ (List.getElem_mem hi)
  rw [hget]
  have hle : i * s + s ≤ es.length * s := by
    have : (i + 1) * s ≤ es.length * s := Nat.mul_le_mul_right _ hi
    rw [Nat.add_mul] at this
    omega
  have hul : us.length = es.length * s := by rw [hc.len, flat_len hlen]
  refine ⟨hel, by rw [List.length_take, List.length_drop, hel]; omega, fun u hu => hc.one u (List.mem_of_mem_drop (List.mem_of_mem_take hu)), fun j d u hd hu => ?_⟩
  have hj : j < s := by rw [← hel]; exact (List.getElem?_eq_some_iff.1 hd).1
  rw [List.getElem?_take, if_pos hj, List.getElem?_drop] at hu
  refine hc.fz _ d u ?_ hu
  rw [flat_get hlen i j hj, List.getElem?_eq_getElem hi]
  exact hd

/-- The cells that a pointer leads to, of what stands still. -/
theorem Fz.cellsAt {w : World} {F : Cells} {m : Names} {cs : List D} {x : Value} (h : Fz w F m (.ptr cs) x) : ∃ b q us, x = .pointer (some ⟨b, q, none⟩) ∧ CellsOK w F noNames cs us ∧ ∀ j v, us[j]? = some v → w.cell? ⟨b, q + j, none⟩ = some v ∧ F b (q + j) := by
  cases h with
  | ptr m cs b off u hu hr =>
    have hget : ∀ (j : Nat) (v : Value), ((List.range cs.length).map u)[j]? = some v → j < cs.length ∧ v = u j := by
      intro j v hj
      rw [List.getElem?_map] at hj
      cases hr : (List.range cs.length)[j]? with
      | none => rw [hr] at hj; cases hj
      | some k =>
        obtain ⟨hlt, hk⟩ := List.getElem?_eq_some_iff.1 hr
        rw [hr] at hj
        have : j < cs.length := by simpa using hlt
        have hk' : j = k := by simpa using hk
        subst hk'
        exact ⟨this, by simpa using hj.symm⟩
    refine ⟨b, off, (List.range cs.length).map u, rfl, ⟨by simp, fun v hv => ?_, fun j d v hd hv => ?_⟩, fun j v hv => ?_⟩
    · obtain ⟨k, hk, rfl⟩ := List.mem_map.1 hv
      exact (hu k (List.mem_range.1 hk)).2.2
    · obtain ⟨_, rfl⟩ := hget j v hv; exact hr j d hd
    · obtain ⟨hj, rfl⟩ := hget j v hv; exact ⟨(hu j hj).1, (hu j hj).2.1⟩
theorem Fz.ofPtr {w : World} {F : Cells} {m : Names} {cs : List D} {b q : Nat} {us : List Value} (hc : CellsOK w F noNames cs us) (hu : ∀ j v, us[j]? = some v → w.cell? ⟨b, q + j, none⟩ = some v ∧ F b (q + j)) : Fz w F m (.ptr cs) (.pointer (some ⟨b, q, none⟩)) := by
  refine .ptr m cs b q (fun k => us.getD k undef) (fun k hk => ?_) (fun k d hd => ?_)
  · have he : us[k]? = some (us.getD k undef) := by rw [List.getD_eq_getElem?_getD, List.getElem?_eq_getElem (by rw [hc.len]; exact hk)]; rfl
    exact ⟨(hu k _ he).1, (hu k _ he).2, hc.one _ (List.mem_of_getElem? he)⟩
  · have hk : k < us.length := by rw [hc.len]; exact (List.getElem?_eq_some_iff.1 hd).1
    exact hc.fz k d _ hd (by rw [List.getD_eq_getElem?_getD, List.getElem?_eq_getElem hk]; rfl)

theorem CellsOK.drop {w : World} {F : Cells} {m : Names} {cs : List D} {us : List Value} (h : CellsOK w F m cs us) (k : Nat) : CellsOK w F m (cs.drop k) (us.drop k) :=
  ⟨by rw [List.length_drop, List.length_drop, h.len], fun u hu => h.one u (List.mem_of_mem_drop hu), fun j d u hd hu => h.fz (k + j) d u (by rwa [List.getElem?_drop] at hd) (by rwa [List.getElem?_drop] at hu)⟩
theorem CellsOK.take {w : World} {F : Cells} {m : Names} {cs : List D} {us : List Value} (h : CellsOK w F m cs us) (k : Nat) : CellsOK w F m (cs.take k) (us.take k) := by
  refine ⟨by rw [List.length_take, List.length_take, h.len], fun u hu => h.one u (List.mem_of_mem_take hu), fun j d u hd hu => ?_⟩
  rw [List.getElem?_take] at hd hu
  split at hd
  · rename_i hj
    rw [if_pos hj] at hu
    exact h.fz j d u hd hu
  · cases hd

theorem getC_val {w : World} {F : Cells} {m : Names} {cs : List D} {us : List Value} (h : CellsOK w F m cs us) {q : Nat} {n : Option Nat} (hg : D.getCok cs q n) :
    ∃ v, Fz w F m (D.getC cs q n) v ∧ (n = none → us[q]? = some v) ∧ (∀ k, n = some k → v = .agg ((us.drop q).take k).toArray ∧ q + k ≤ us.length) := by
  cases n with
  | none =>
    have hq : q < us.length := by rw [h.len]; exact hg
    have hc : cs[q]? = some cs[q] := List.getElem?_eq_getElem hg
    have e : D.getC cs q none = cs[q] := by simp [D.getC, List.getD_eq_getElem?_getD, hc]
    rw [e]
    exact ⟨us[q], h.fz q _ _ hc (List.getElem?_eq_getElem hq), fun _ => List.getElem?_eq_getElem hq, fun k hk => by cases hk⟩
  | some n =>
    have h1 := (h.drop q).take n
    exact ⟨.agg ((us.drop q).take n).toArray, .agg m _ _ h1.len h1.one h1.fz, (fun hm => by cases hm), fun k hk => by
      obtain rfl : n = k := by simpa using hk
      exact ⟨rfl, by rw [h.len]; exact hg⟩⟩

section
variable {P : Program} {G : Ctx} {o : Oper} {σ τ : Env} {a : Act} {w : World} {F : Cells} {m : Names}

/-- Where the pointer of a slot leads in memory. -/
theorem ptr_at (hR : RelF G τ a.tmps w F m) {s : Nat} (hs : s < nb) (hag : ∀ t, t ∈ s :: ptrRoot σ s → τ t = σ t) (hok : ptrOk σ s) :
    ∃ b q us, a.eval (.tmp s) = .pointer (some ⟨b, q + ptrO σ s, none⟩) ∧ CellsOK w F m (ptrC σ s) us ∧ ∀ j v, us[j]? = some v → w.cell? ⟨b, q + j, none⟩ = some v := by
  have h1 := hR.slots s hs
  rw [hag s (List.mem_cons_self ..)] at h1
  unfold ptrOk at hok
  unfold ptrRoot at hag
  unfold ptrC ptrO
  have hx : a.eval (.tmp s) = a.tmps.getD s undef := rfl
  rw [hx]
  generalize a.tmps.getD s undef = x at h1
  cases hv : σ s with
  | ref g q =>
    rw [hv] at h1 hok hag
    obtain ⟨hg, hok⟩ := hok
    have h2 := hR.blks g hg
    rw [hag g (List.mem_cons_of_mem _ (List.mem_singleton.2 rfl))] at h2
    cases h1 with
    | ref _ _ _ b hb =>
      cases hgv : σ g with
      | obj cs =>
        rw [hgv] at h2
        obtain ⟨b', cur, U, hg', hb', hc, _⟩ := h2
        obtain rfl : b = b' := by rw [hb] at hg'; simpa using hg'
        exact ⟨b, 0, cur.toList, by simp, by simpa [hgv] using hc, fun j v hj => by rw [Nat.zero_add, cell_of_row w b j cur U (0, 0) hb', ← Array.getElem?_toList]; exact hj⟩
      | _ => rw [hgv] at hok; exact hok.elim
  | eref g st i q =>
    rw [hv] at h1 hok hag
    obtain ⟨hg, hok⟩ := hok
    have h2 := hR.blks g hg
    rw [hag g (List.mem_cons_of_mem _ (List.mem_singleton.2 rfl))] at h2
    cases h1 with
    | eref _ _ _ _ _ b hb =>
      cases hgv : σ g with
      | row st' es =>
        rw [hgv] at h2 hok
        obtain ⟨rfl, hi⟩ := hok
        rcases h2 with ⟨rfl, _⟩ | ⟨b', cur, U, hg', hb', h0, hl, hsz, hc, _⟩
        · simp at hi
        · obtain rfl : b = b' := by rw [hb] at hg'; simpa using hg'
          obtain ⟨hel, hcc⟩ := elem_cells hl hc hi
          refine ⟨b, i * st', _, rfl, by simpa [hgv] using hcc, fun j v hj => ?_⟩
          rw [List.getElem?_take] at hj
          split at hj
          · rw [List.getElem?_drop, List.getElem?_take] at hj
            split at hj
            · rw [cell_of_row w b _ cur U (0, 0) hb', ← Array.getElem?_toList]; exact hj
            · cases hj
          · cases hj
      | _ => rw [hgv] at hok; exact hok.elim
  | ptr cs =>
    rw [hv] at h1
    obtain ⟨b, q, us, rfl, hc, hu⟩ := h1.cellsAt
    exact ⟨b, q, us, rfl, hc.names none_le, fun j v hj => (hu j v hj).1⟩
  | _ => rw [hv] at hok; exact hok.elim

theorem run_load {T : TypeId} {n : Option Nat} (hsz : szOf P T = some n) {s : Nat} (ho : o.op = .load T (.tmp s)) {a : Act} {w : World} {b q k : Nat} (hx : a.eval (.tmp s) = .pointer (some ⟨b, q + k, none⟩)) {us : List Value}
    (hc : ∀ j v, us[j]? = some v → w.cell? ⟨b, q + j, none⟩ = some v) {v : Value} (h1 : n = none → us[k]? = some v) (h2 : ∀ m, n = some m → v = .agg ((us.drop k).take m).toArray ∧ k + m ≤ us.length) :
    (execOp a.eval o).run P w = .ok (.value v) w := by
  cases n with
  | none =>
    have := run_loadVar1 (P := P) hsz w ⟨b, q + k, none⟩ v (hc k v (h1 rfl))
    simp [execOp, ho, Instr.loadAt, hx, Instr.sureAddr, this]
  | some m =>
    obtain ⟨rfl, hle⟩ := h2 m rfl
    have := run_loadVarN (P := P) hsz w b (q + k) ((us.drop k).take m) (by simp; omega) (fun j v hj => by
      rw [List.getElem?_take] at hj
      split at hj
      · rw [List.getElem?_drop] at hj
        rw [Nat.add_assoc]
        exact hc _ v hj
      · cases hj)
    simp [execOp, ho, Instr.loadAt, hx, Instr.sureAddr, this]

theorem in_lod {d s T : Nat} {n : Option Nat} (ho : o.op = .load T (.tmp s)) (hs : s < nb) (hsz : szOf P T = some n) (hdst : o.dst = some d) (hd : d < G.n) (h : In.ok σ (.lod d s n)) : OpOK P G o (In.ent σ (.lod d s n)) σ (In.upd σ (.lod d s n)) := by
  refine .pure hdst hd (fun τ a w F m hag hR => ?_)
  obtain ⟨b, q, us, hx, hc, hu⟩ := ptr_at hR hs hag h.1
  obtain ⟨v, hv, h1, h2⟩ := getC_val hc h.2
  exact ⟨v, run_load hsz ho hx hu h1 h2, hv⟩

/-- A pointer moved on. -/
theorem OpOK.move {d s k : Nat} {l : List Nat} (hs : s < nb) (hdst : o.dst = some d) (hd : d < G.n) (h : ptrMv σ s)
    (hrun : ∀ (τ : Env) (a : Act) (w : World) (F : Cells) (m : Names) (b q : Nat), (∀ t, t ∈ s :: l → τ t = σ t) → RelF G τ a.tmps w F m → a.eval (.tmp s) = .pointer (some ⟨b, q, none⟩) →
      (execOp a.eval o).run P w = .ok (.value (.pointer (some ⟨b, q + k, none⟩))) w) : OpOK P G o ⟨s :: l, [d]⟩ σ [(d, ptrD σ s k)] := by
  refine .pure hdst hd (fun τ a w F m hag hR => ?_)
  have h1 := hR.slots s hs
  rw [hag s (List.mem_cons_self ..)] at h1
  have hx : a.eval (.tmp s) = a.tmps.getD s undef := rfl
  unfold ptrMv at h
  unfold ptrD
  generalize hy : a.tmps.getD s undef = x at h1
  rw [hy] at hx
  cases hv : σ s with
  | ref g q =>
    rw [hv] at h1
    cases h1 with
    | ref _ _ _ b hb => exact ⟨_, hrun τ a w F m b q hag hR hx, .ref m g _ b hb⟩
  | eref g st i q =>
    rw [hv] at h1
    cases h1 with
    | eref _ _ _ _ _ b hb => exact ⟨_, hrun τ a w F m b _ hag hR hx, by rw [Nat.add_assoc]; exact .eref m g st i _ b hb⟩
  | ptr cs =>
    rw [hv] at h1
    obtain ⟨b, q, us, rfl, hc, hu⟩ := h1.cellsAt
    exact ⟨_, hrun τ a w F m b q hag hR hx, Fz.ofPtr (hc.drop k) (fun j v hj => by
      rw [List.getElem?_drop] at hj
      rw [Nat.add_assoc]
      exact hu _ v hj)⟩
  | _ => rw [hv] at h; exact h.elim

theorem in_fad {d s S f q : Nat} {n : Option Nat} (ho : o.op = .fieldAddr S (.tmp s) f) (hs : s < nb) (hf : fldOf P S f = some (q, n)) (hdst : o.dst = some d) (hd : d < G.n) (h : In.ok σ (.fad d s q)) :
    OpOK P G o (In.ent σ (.fad d s q)) σ (In.upd σ (.fad d s q)) := by
  obtain ⟨fields, fd, hu, hfd, rfl, hsz, hn0⟩ := fldOf_some hf
  refine OpOK.move (l := []) hs hdst hd h (fun τ a w F m b q hag hR hx => ?_)
  have h1 := run_sizeOf' hsz w
  simp [execOp, ho, Instr.fieldAt, run_underlying hu, hfd, hx, Instr.sureAddr, fieldPlace, h1, hn0, Addr.add_lit]

theorem in_iaa {d s T e k : Nat} {i : Operand} {I : Opd} {n : Option Nat} (ho : o.op = .indexAddr T (.tmp s) i) (hs : s < nb) (hT : P.underlying T = some (.array k e)) (he : szOf P e = some n) (hi : opd i = some I) (hdst : o.dst = some d) (hd : d < G.n)
    (h : In.ok σ (.iaa d s I k (n.getD 1))) : OpOK P G o (In.ent σ (.iaa d s I k (n.getD 1))) σ (In.upd σ (.iaa d s I k (n.getD 1))) := by
  obtain ⟨h1, h0, hm, hp⟩ := h
  obtain ⟨k', hj⟩ := int_val h1
  refine OpOK.move (l := I.rd) hs hdst hd hp (fun τ a w F m b q hag hR hx => ?_)
  have h1 := run_sizeOf' he w
  have hij := opd_v hR hi (fun t ht => hag t (List.mem_cons_of_mem _ ht)) hj
  simp [execOp, ho, Instr.indexAt, run_underlying hT, hij, asIntOf, hx, Instr.sureAddr, h0, hm, h1, Addr.add_lit]

theorem in_iad {d s T e : Nat} {i : Operand} {I : Opd} {n : Option Nat} (ho : o.op = .indexAddr T (.tmp s) i) (hs : s < nb) (hT : P.underlying T = some (.slice e)) (he : szOf P e = some n) (hi : opd i = some I) (hdst : o.dst = some d) (hd : d < G.n)
    (h : In.ok σ (.iad d s I (n.getD 1))) : OpOK P G o (In.ent σ (.iad d s I (n.getD 1))) σ (In.upd σ (.iad d s I (n.getD 1))) := by
  simp only [In.ok] at h
  simp only [In.upd]
  have hx : ∀ a : Act, a.eval (.tmp s) = a.tmps.getD s undef := fun _ => rfl
  cases hv : σ s with
  | sl st es =>
    rw [hv] at h
    obtain ⟨rfl, h1, h0, hm⟩ := h
    obtain ⟨k', hj⟩ := int_val h1
    refine .pure hdst hd (fun τ a w F m hag hR => ?_)
    have hij := opd_v hR hi (fun t ht => hag t (List.mem_cons_of_mem _ ht)) hj
    have h1 := hR.slots s hs
    rw [hag s (List.mem_cons_self ..), hv] at h1
    have hjn : (intD σ I).toNat < es.length := by omega
    rcases h1.slCells with ⟨rfl, _⟩ | ⟨b, off, cap, us, hxe, _, _, hl, hc, hu⟩
    · simp at hjn
    · obtain ⟨hel, hcc⟩ := elem_cells hl hc hjn
      have hsz := run_sizeOf' he w
      refine ⟨.pointer (some ⟨b, off + (intD σ I).toNat * n.getD 1, none⟩), ?_, Fz.ofPtr hcc (fun j v hj' => ?_)⟩
      · simp [execOp, ho, Instr.indexAt, run_underlying hT, hij, asIntOf, hx a, hxe, h0, hm, hsz, Addr.add_lit]
      · rw [List.getElem?_take] at hj'
        split at hj'
        · rw [List.getElem?_drop] at hj'
          rw [Nat.add_assoc]
          exact hu _ v hj'
        · cases hj'
  | own g st k =>
    rw [hv] at h
    obtain ⟨rfl, h1, h0, hm⟩ := h
    obtain ⟨k', hj⟩ := int_val h1
    refine .pure hdst hd (fun τ a w F m hag hR => ?_)
    have hij := opd_v hR hi (fun t ht => hag t (List.mem_cons_of_mem _ ht)) hj
    have h1 := hR.slots s hs
    rw [hag s (List.mem_cons_self ..), hv] at h1
    have hsz := run_sizeOf' he w
    generalize hy : a.tmps.getD s undef = x at h1
    have hxa := hx a
    rw [hy] at hxa
    cases h1 with
    | own _ _ _ _ b cap cur U hg h00 hle hb hcap =>
      refine ⟨.pointer (some ⟨b, (intD σ I).toNat * n.getD 1 + 0, none⟩), ?_, .eref m g _ _ 0 b hg⟩
      simp [execOp, ho, Instr.indexAt, run_underlying hT, hij, asIntOf, hxa, h0, hm, hsz, Addr.add_lit]
    | own0 => omega
  | _ => rw [hv] at h; exact h.elim

theorem Fz.aggOf {cs : List D} {x : Value} (h : Fz w F m (.agg cs) x) : ∃ us : List Value, x = .agg us.toArray ∧ CellsOK w F m cs us := by
  cases h with
  | agg _ cs us hl h1 hr => exact ⟨us, rfl, hl, h1, hr⟩
theorem Fz.tupOf {cs : List D} {x : Value} (h : Fz w F m (.tup cs) x) : ∃ us : List Value, x = .tuple us.toArray ∧ us.length = cs.length ∧ ∀ (i : Nat) (d : D) (u : Value), cs[i]? = some d → us[i]? = some u → Fz w F m d u := by
  cases h with
  | tup _ cs us hl hr => exact ⟨us, rfl, hl, hr⟩

theorem in_fld {d T f q : Nat} {n : Option Nat} {x : Operand} {X : Opd} (ho : o.op = .field T x f) (hf : fldOf P T f = some (q, n)) (hx : opd x = some X) (hdst : o.dst = some d) (hd : d < G.n) (h : In.ok σ (.fld d X q n)) :
    OpOK P G o (In.ent σ (.fld d X q n)) σ (In.upd σ (.fld d X q n)) := by
  obtain ⟨fields, fd, hu, hfd, rfl, hsz, hn0⟩ := fldOf_some hf
  simp only [In.ok] at h
  simp only [In.upd]
  cases hv : X.val σ with
  | agg cs =>
    rw [hv] at h
    refine .pure hdst hd (fun τ a w F m hag hR => ?_)
    have hso := opd_fz hR hx hag
    rw [hv] at hso
    obtain ⟨us, hxe, hus⟩ := hso.aggOf
    obtain ⟨v, hfz, h1, h2⟩ := getC_val hus h
    obtain ⟨u', i', _, _, _, hagg⟩ := szOf_some hsz
    refine ⟨v, ?_, hfz⟩
    cases n with
    | none =>
      have h1 := h1 rfl
      simp [execOp, ho, hxe, Instr.field, run_underlying hu, hfd, asAgg, part, hagg, h1]
    | some m =>
      obtain ⟨rfl, hle⟩ := h2 m rfl
      have hs := run_sizeOf' hsz w
      simp [execOp, ho, hxe, Instr.field, run_underlying hu, hfd, asAgg, part, hagg, hs]
  | _ => rw [hv] at h; exact h.elim

theorem in_ida {d T e k : Nat} {n : Option Nat} {x i : Operand} {X I : Opd} (ho : o.op = .index T x i) (hT : P.underlying T = some (.array k e)) (hsz : szOf P e = some n) (hx : opd x = some X) (hi : opd i = some I) (hdst : o.dst = some d) (hd : d < G.n)
    (h : In.ok σ (.ida d X I k (n.getD 1) n)) : OpOK P G o (In.ent σ (.ida d X I k (n.getD 1) n)) σ (In.upd σ (.ida d X I k (n.getD 1) n)) := by
  obtain ⟨hi1, h0, hm, h⟩ := h
  obtain ⟨k', hj⟩ := int_val hi1
  simp only [In.upd]
  cases hv : X.val σ with
  | agg cs =>
    rw [hv] at h
    refine .pure hdst hd (fun τ a w F m hag hR => ?_)
    have hso := opd_fz hR hx (fun t ht => hag t (List.mem_append_left _ ht))
    have hij := opd_v hR hi (fun t ht => hag t (List.mem_append_right _ ht)) hj
    rw [hv] at hso
    obtain ⟨us, hxe, hus⟩ := hso.aggOf
    obtain ⟨v, hfz, h1, h2⟩ := getC_val hus h
    obtain ⟨u', i', _, _, _, hagg⟩ := szOf_some hsz
    refine ⟨v, ?_, hfz⟩
    have hs := run_sizeOf' hsz w
    cases n with
    | none =>
      have h1 := h1 rfl
      simp only [Option.getD_none, Nat.mul_one] at h1
      simp [execOp, ho, hxe, hij, Instr.index, asIntOf, run_underlying hT, h0, hm, hs, part, hagg, h1]
    | some q =>
      obtain ⟨rfl, hle⟩ := h2 q rfl
      simp [execOp, ho, hxe, hij, Instr.index, asIntOf, run_underlying hT, h0, hm, hs, part, hagg]
  | _ => rw [hv] at h; exact h.elim

theorem in_ext {d s i : Nat} (ho : o.op = .extract (.tmp s) i) (hs : s < nb) (hdst : o.dst = some d) (hd : d < G.n) (h : In.ok σ (.ext d s i)) : OpOK P G o (In.ent σ (.ext d s i)) σ (In.upd σ (.ext d s i)) := by
  simp only [In.ok] at h
  simp only [In.upd]
  cases hv : σ s with
  | tup ps =>
    rw [hv] at h
    have h : i < ps.length := h
    have hp : ps[i]? = some ps[i] := List.getElem?_eq_getElem h
    refine .pure hdst hd (fun τ a w F m hag hR => ?_)
    have h1 := hR.slots s hs
    rw [hag s (List.mem_singleton.2 rfl), hv] at h1
    obtain ⟨us, hxe, hl, hr⟩ := h1.tupOf
    have hi : i < us.length := by rw [hl]; exact h
    have hxe' : a.eval (.tmp s) = .tuple us.toArray := hxe
    refine ⟨us[i], by simp [execOp, ho, hxe', Instr.extract, hi], ?_⟩
    rw [List.getD_eq_getElem?_getD, hp]
    exact hr i _ _ hp (List.getElem?_eq_getElem hi)
  | _ => rw [hv] at h; exact h.elim

theorem Fz.lenOf {d : D} {x : Value} (h : Fz w F m d x) (hd : lenOk d) : ∃ a cap, x = .slice a (lenD d) cap ∧ lenD d ≤ cap := by
  cases h with
  | sl0 m s a cap => exact ⟨a, cap, rfl, Nat.zero_le _⟩
  | sl m s es b off cap u hs hle hlen hu hr => exact ⟨_, cap, rfl, hle⟩
  | nul m a => exact ⟨a, 0, rfl, Nat.zero_le _⟩
  | own m g s n b cap cur T hg hs hle hb hcap => exact ⟨_, cap, rfl, hle⟩
  | own0 m g s a hg => exact ⟨a, 0, rfl, Nat.zero_le _⟩
  | _ => exact hd.elim

theorem in_len {d T e : Nat} {x : Operand} {X : Opd} (ho : o.op = .call { callee := .builtin .len, args := #[x], argTypes := #[T] }) (hT : P.underlying T = some (.slice e)) (hx : opd x = some X)
    (hdst : o.dst = some d) (hd : d < G.n) (h : In.ok σ (.len d X)) : OpOK P G o (In.ent σ (.len d X)) σ (In.upd σ (.len d X)) := by
  refine .pure hdst hd (fun τ a w F m hag hR => ⟨_, ?_, .v m _⟩)
  obtain ⟨b, c, hb, _⟩ := (opd_fz hR hx hag).lenOf h
  simp [execOp, ho, resolve, invoke, builtin, Builtin.len_, hb, run_underlying hT, goInt]

theorem in_lens {d T : Nat} {x : Operand} {X : Opd} (ho : o.op = .call { callee := .builtin .len, args := #[x], argTypes := #[T] }) (hT : P.underlying T = some .string) (hx : opd x = some X)
    (hdst : o.dst = some d) (hd : d < G.n) (h : In.ok σ (.lens d X)) : OpOK P G o (In.ent σ (.lens d X)) σ (In.upd σ (.lens d X)) := by
  simp only [In.ok] at h
  simp only [In.upd]
  split at h
  · rename_i b hb
    refine .pure hdst hd (fun τ a w F m hag hR => ⟨_, ?_, .v m _⟩)
    simp [execOp, ho, resolve, invoke, builtin, Builtin.len_, opd_v hR hx hag hb, run_underlying hT, goInt]
  · exact h.elim

theorem in_idx {d T : Nat} {x i : Operand} {X I : Opd} (ho : o.op = .index T x i) (hT : P.underlying T = some .string) (hx : opd x = some X) (hi : opd i = some I)
    (hdst : o.dst = some d) (hd : d < G.n) (h : In.ok σ (.idx d X I)) : OpOK P G o (In.ent σ (.idx d X I)) σ (In.upd σ (.idx d X I)) := by
  simp only [In.ok] at h
  simp only [In.upd]
  split at h
  · rename_i b hb
    obtain ⟨h1, h0, hm⟩ := h
    obtain ⟨k', hj⟩ := int_val h1
    refine in_two hx hi hdst hd hb hj (fun a w e1 e2 => ?_)
    have hjn : (intD σ I).toNat < b.data.size := by have : b.size = b.data.size := rfl; omega
    have hget : b[(intD σ I).toNat]? = some (b.data.getD (intD σ I).toNat 0) := by
      have : b[(intD σ I).toNat]? = some b[(intD σ I).toNat] := by rw [getElem?_pos]
      rw [this]
      congr 1
      show b.data[(intD σ I).toNat] = _
      rw [Array.getD_eq_getD_getElem?, Array.getElem?_eq_getElem hjn]
      rfl
    simp [execOp, ho, e1, e2, Instr.index, asIntOf, run_underlying hT, h0, hget]
  · exact h.elim

theorem in_ifc {d T : Nat} {td : TypeDesc} {x : Operand} {X : Opd} (ho : o.op = .makeInterface T x) (hT : P.underlying T = some td) (hc : ∀ m, td ≠ .interface m) (hx : opd x = some X) (hdst : o.dst = some d) (hd : d < G.n) :
    OpOK P G o (In.ent σ (.ifc d T X)) σ (In.upd σ (.ifc d T X)) := by
  refine .pure hdst hd (fun τ a w F m hag hR => ⟨_, ?_, .ifc m T _ _ (opd_fz hR hx hag)⟩)
  cases td <;> first | (exfalso; exact hc _ rfl) | simp [execOp, ho, Instr.makeInterface, run_underlying hT]

/-- Several operands. -/
theorem opds_fz (hR : RelF G τ a.tmps w F m) : ∀ {l : List Operand} {Xs : List Opd}, l.mapM opd = some Xs → (∀ t, t ∈ Xs.flatMap Opd.rd → τ t = σ t) → (l.map a.eval).length = (Xs.map (Opd.val σ)).length ∧
    ∀ (i : Nat) (d : D) (u : Value), (Xs.map (Opd.val σ))[i]? = some d → (l.map a.eval)[i]? = some u → Fz w F m d u
  | [], Xs, h, _ => by
    obtain rfl : [] = Xs := by simpa using h
    exact ⟨rfl, fun i d u h => by simp at h⟩
  | x :: l, Xs, h, hag => by
    rw [List.mapM_cons] at h
    cases hX : opd x with
    | none => rw [hX] at h; cases h
    | some X =>
      cases hl : l.mapM opd with
      | none => rw [hX, hl] at h; cases h
      | some Ys =>
        rw [hX, hl] at h
        obtain rfl : X :: Ys = Xs := by simpa using h
        obtain ⟨h1, h2⟩ := opds_fz hR hl (fun t ht => hag t (by rw [List.flatMap_cons]; exact List.mem_append_right _ ht))
        refine ⟨by simpa using h1, fun i d u hd hu => ?_⟩
        cases i with
        | zero =>
          obtain rfl : X.val σ = d := by simpa using hd
          obtain rfl : a.eval x = u := by simpa using hu
          exact opd_fz hR hX (fun t ht => hag t (by rw [List.flatMap_cons]; exact List.mem_append_left _ ht))
        | succ i => exact h2 i d u (by simpa using hd) (by simpa using hu)

theorem in_mkf {d f : Nat} {xs : Array Operand} {Xs : List Opd} (ho : o.op = .makeFunc (.func f) #[] xs) (hx : xs.toList.mapM opd = some Xs) (hdst : o.dst = some d) (hd : d < G.n) : OpOK P G o (In.ent σ (.mkf d f Xs)) σ (In.upd σ (.mkf d f Xs)) := by
  refine .pure hdst hd (fun τ a w F m hag hR => ⟨.func (.func f) #[] (xs.toList.map a.eval).toArray, by
    rw [show (xs.toList.map a.eval).toArray = xs.map a.eval from Array.ext' (by simp)]
    simp [execOp, ho, Instr.makeFunc], ?_⟩)
  obtain ⟨h1, h2⟩ := opds_fz hR hx hag
  exact .fn m f _ _ h1 h2

theorem in_nilc {d s : Nat} (ho : o.op = .nilCheck (.tmp s)) (hs : s < nb) (hdst : o.dst = some d) (hd : d < G.n) (h : In.ok σ (.nilc d s)) : OpOK P G o (In.ent σ (.nilc d s)) σ (In.upd σ (.nilc d s)) := by
  simp only [In.ok] at h
  simp only [In.upd]
  refine .pure hdst hd (fun τ a w F m hag hR => ?_)
  have h1 := hR.slots s hs
  rw [hag s (List.mem_singleton.2 rfl)] at h1
  have hx : a.eval (.tmp s) = a.tmps.getD s undef := rfl
  refine ⟨a.tmps.getD s undef, ?_, h1⟩
  generalize hy : a.tmps.getD s undef = x at h1
  rw [hy] at hx
  generalize hv : σ s = d' at h h1
  cases h1 with
  | ref => simp [execOp, ho, hx]
  | eref => simp [execOp, ho, hx]
  | ptr => simp [execOp, ho, hx]
  | ifc => simp [execOp, ho, hx]
  | fn => simp [execOp, ho, hx]
  | _ => exact h.elim

end
end Go.Proofs.Ytimpofjjndbofaa
