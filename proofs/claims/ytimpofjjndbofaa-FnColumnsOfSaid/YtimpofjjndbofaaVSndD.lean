/-
  Instructions on plain data, the fourth part: stores, appends, equality of structs. No condition.
-/
import Derived.Test.YtimpofjjndbofaaVSndC
namespace Go.Proofs.Ytimpofjjndbofaa
open Go.RowKit

section
variable {P : Program} {G : Ctx} {o : Oper} {σ τ : Env} {a : Act} {w : World} {F : Cells} {m : Names}

theorem run_sto {T s : Nat} {n : Option Nat} {x : Operand} (ho : o.op = .store T (.tmp s) x) (hsz : szOf P T = some n) {a : Act} {w : World} {b q : Nat} (hx : a.eval (.tmp s) = .pointer (some ⟨b, q, none⟩)) {vs : List Value} (hv : (a.eval x).cells.toList = vs)
    (hl : vs.length = n.getD 1) (h1 : ∀ v ∈ vs, v.oneCell' = true) {cur : Array Value} {U : TypeId} (hb : w.heap[b]? = some (.cells cur U (0, 0))) (hle : q + vs.length ≤ cur.size) :
    (execOp a.eval o).run P w = .ok .skip (w.setRow b (cur.toList.take q ++ vs ++ cur.toList.drop (q + vs.length)).toArray) := by
  have := run_storeVar (P := P) hsz w b q (a.eval x) vs hv hl h1 cur U hb hle
  simp [execOp, ho, Instr.storeAt, hx, Instr.sureAddr, this]

theorem elemSet_cells {e d : D} {o : Nat} {n : Option Nat} (hok : D.asCok d n) (h0 : 0 < n.getD 1) (hle : o + n.getD 1 ≤ e.cells.length) : (elemSet e o d n).cells = D.setC e.cells o d n := by
  have single : ∀ e : D, e.cells = [e] → o + n.getD 1 ≤ e.cells.length → elemSet e o d n = d → (elemSet e o d n).cells = D.setC e.cells o d n := by
    intro e he hle hs
    rw [he, List.length_singleton] at hle
    rw [hs, he, asC_cells hok, setC_all _ _ _ _ hok (by rw [List.length_singleton]; exact hle), D.setAll]
    obtain rfl : o = 0 := by omega
    have : (D.asC d n).length = 1 := by rw [asC_length hok]; omega
    rw [this]
    simp
  cases e with
  | agg cs => rfl
  | _ => exact single _ rfl hle rfl

/-- A part of a part. -/
theorem setAll_setAll (l : List D) (i k o : Nat) (us : List D) (hk : i + k ≤ l.length) (ho : o + us.length ≤ k) : D.setAll l i (D.setAll ((l.drop i).take k) o us) = D.setAll l (i + o) us := by
  have hlen : ((l.drop i).take k).length = k := by rw [List.length_take, List.length_drop]; omega
  have hsl : (D.setAll ((l.drop i).take k) o us).length = k := by rw [D.setAll, setAll_length _ _ _ (by rw [hlen]; exact ho), hlen]
  apply List.ext_getElem?
  intro j
  rw [D.setAll, setAll_get l _ i (by rw [hsl]; exact hk), hsl, D.setAll, D.setAll, setAll_get l us (i + o) (by omega)]
  by_cases h1 : i ≤ j ∧ j < i + k
  · rw [if_pos h1, setAll_get _ _ _ (by rw [hlen]; exact ho)]
    by_cases h2 : o ≤ j - i ∧ j - i < o + us.length
    · rw [if_pos h2, if_pos (by omega)]
      congr 1
      omega
    · rw [if_neg h2, if_neg (by omega), List.getElem?_take, if_pos (by omega), List.getElem?_drop]
      congr 1
      omega
  · rw [if_neg h1, if_neg (by omega)]

theorem flat_elem {es : List D} {s : Nat} (hlen : ∀ (e : D), e ∈ es → e.cells.length = s) {i : Nat} (hi : i < es.length) : (es.getD i .any).cells = ((D.flat es).drop (i * s)).take s ∧ (es.getD i .any).cells.length = s ∧ i * s + s ≤ (D.flat es).length := by
  have hget : es.getD i .any = es[i] := by simp [List.getD_eq_getElem?_getD, hi]
  have hel := hlen _ (List.getElem_mem hi)
  have hle : i * s + s ≤ (D.flat es).length := by
    rw [flat_len hlen]
    have : (i + 1) * s ≤ es.length * s := Nat.mul_le_mul_right _ hi
    rw [Nat.add_mul] at this
    omega
  rw [hget]
  refine ⟨?_, hel, hle⟩
  apply List.ext_getElem?
  intro j
  rw [List.getElem?_take]
  by_cases hj : j < s
  · rw [if_pos hj, List.getElem?_drop, flat_get hlen i j hj, List.getElem?_eq_getElem hi]
    rfl
  · rw [if_neg hj, List.getElem?_eq_none (by omega)]

theorem in_sto {T s : Nat} {n : Option Nat} {x : Operand} {X : Opd} (ho : o.op = .store T (.tmp s) x) (hs : s < nb) (hsz : szOf P T = some n) (h0 : 0 < n.getD 1) (hx : opd x = some X) (hdst : o.dst = none) (h : In.ok σ (.sto s X n)) :
    OpOK P G o (In.ent σ (.sto s X n)) σ (In.upd σ (.sto s X n)) := by
  obtain ⟨hp, hnp, hok, hle⟩ := h
  refine .of_run (fun p hp' => ?_) (fun τ a w F m hag hR => ?_)
  · simp only [In.upd, stoU] at hp'
    simp only [In.ent, ptrRoot]
    unfold ptrOk at hp
    cases hv : σ s with
    | ref g q =>
      simp only [hv] at hp hp'
      cases hg : σ g with
      | obj cs => simp only [hg] at hp'; obtain rfl := List.mem_singleton.1 hp'; exact List.mem_singleton.2 rfl
      | _ => simp only [hg] at hp; exact hp.2.elim
    | eref g st i q =>
      simp only [hv] at hp hp'
      cases hg : σ g with
      | row st' es => simp only [hg] at hp'; obtain rfl := List.mem_singleton.1 hp'; exact List.mem_singleton.2 rfl
      | _ => simp only [hg] at hp; exact hp.2.elim
    | ptr cs => rw [hv] at hnp; exact hnp.elim
    | _ => rw [hv] at hp; exact hp.elim
  · have hcv := asC_val (opd_fz hR hx (fun t ht => hag t (List.mem_cons_of_mem _ (List.mem_append_right _ ht)))) hok
    have hlv := asC_length hok
    have hag1 : ∀ t, t ∈ s :: ptrRoot σ s → τ t = σ t := fun t ht => hag t (by
      rcases List.mem_cons.1 ht with rfl | ht
      · exact List.mem_cons_self ..
      · exact List.mem_cons_of_mem _ (List.mem_append_left _ ht))
    have h1 := hR.slots s hs
    rw [hag1 s (List.mem_cons_self ..)] at h1
    have hxa : a.eval (.tmp s) = a.tmps.getD s undef := rfl
    simp only [In.upd, stoU]
    unfold ptrOk at hp
    unfold ptrC ptrO at hle
    unfold ptrRoot at hag1
    generalize hy : a.tmps.getD s undef = y at h1
    rw [hy] at hxa
    rw [hdst]
    cases hv : σ s with
    | ref g q =>
      rw [hv] at hp hle h1 hag1
      obtain ⟨hg, hp⟩ := hp
      have hgσ := hag1 g (List.mem_cons_of_mem _ (List.mem_singleton.2 rfl))
      have h2 := hR.blks g hg
      rw [hgσ] at h2
      cases hgv : σ g with
      | obj cs =>
        rw [hgv] at h2
        simp only [hgv] at hle
        obtain ⟨b, cur, U, hmg, hb, hc, hF⟩ := h2
        cases h1 with
        | ref _ _ _ b' hb' =>
          obtain rfl : b = b' := by rw [hmg] at hb'; simpa using hb'
          have hsz2 : q + (a.eval x).cells.toList.length ≤ cur.size := by rw [hcv.len, hlv]; have := hc.len; simp at this; omega
          have hrun := run_sto ho hsz hxa rfl (by rw [hcv.len, hlv]) hcv.one hb hsz2
          have hset := hc.setAll hcv q (by rw [hlv]; exact hle)
          rw [← setC_all _ _ _ _ hok hle] at hset
          generalize hnw : cur.toList.take q ++ (a.eval x).cells.toList ++ cur.toList.drop (q + (a.eval x).cells.toList.length) = new at hrun hset
          have hnsz : new.toArray.size = cur.size := by rw [← hnw, List.size_toArray, setAll_length _ _ _ (by simpa using hsz2)]; simp
          have c := Chg.setRow0 (F := F) b cur new.toArray U hb hnsz hF
          have hlt := (Array.getElem?_eq_some_iff.1 hb).1
          refine ⟨_, undef, _, F, m, hrun, .inr ⟨rfl, rfl⟩, ?_⟩
          simp only [hgv]
          refine hR.turn (δ := .obj (D.setC cs q (X.val σ) n)) hg (by rw [hgσ, hgv]; rfl) (c.mono (fun k hk => by rw [hk]; exact hmg)) (fun c q hq => by rw [setRow_size]; exact hR.wf c q hq) ⟨b, _, U, hmg, setRow_heap w b cur new.toArray U (0, 0) hb, ?_, hF⟩ (by intro h; cases h)
          simpa using hset.stable c (fun _ _ h => h)
      | _ => rw [hgv] at hp; exact hp.elim
    | eref g st i q =>
      rw [hv] at hp hle h1 hag1
      obtain ⟨hg, hp⟩ := hp
      have hgσ := hag1 g (List.mem_cons_of_mem _ (List.mem_singleton.2 rfl))
      have h2 := hR.blks g hg
      rw [hgσ] at h2
      cases hgv : σ g with
      | row st' es =>
        rw [hgv] at h2 hp
        simp only [hgv] at hle
        obtain ⟨rfl, hi⟩ := hp
        rcases h2 with ⟨rfl, _⟩ | ⟨b, cur, U, hmg, hb, hs0, hel, hsz', hc, hF⟩
        · simp at hi
        · cases h1 with
          | eref _ _ _ _ _ b' hb' =>
            obtain rfl : b = b' := by rw [hmg] at hb'; simpa using hb'
            obtain ⟨he1, he2, he3⟩ := flat_elem hel hi
            have hfl := flat_len hel
            have hsz2 : i * st' + q + (a.eval x).cells.toList.length ≤ cur.size := by rw [hcv.len, hlv]; omega
            have hrun := run_sto ho hsz hxa rfl (by rw [hcv.len, hlv]) hcv.one hb hsz2
            have hec := elemSet_cells hok h0 hle
            have hlc : (elemSet (es.getD i .any) q (X.val σ) n).cells.length = st' := by rw [hec, setC_length _ _ _ _ hok hle, he2]
            have hset := hc.setAll hcv (i * st' + q) (by rw [hlv]; omega)
            have hD : D.setAll (D.flat es) (i * st' + q) (D.asC (X.val σ) n) = D.flat (es.set i (elemSet (es.getD i .any) q (X.val σ) n)) := by
              rw [flat_set hel hi hlc, hec, setC_all _ _ _ _ hok hle, he1, setAll_setAll _ _ _ _ _ he3 (by rw [hlv]; omega)]
            rw [hD] at hset
            have hnl : ∀ (e : D), e ∈ es.set i (elemSet (es.getD i .any) q (X.val σ) n) → e.cells.length = st' := fun e he => by
              rcases List.mem_or_eq_of_mem_set he with he | rfl
              · exact hel e he
              · exact hlc
            have hnew : cur.toList.take (i * st' + q) ++ (a.eval x).cells.toList ++ cur.toList.drop (i * st' + q + (a.eval x).cells.toList.length) = cur.toList.take (i * st' + q) ++ (a.eval x).cells.toList ++ cur.toList.drop (i * st' + q + (a.eval x).cells.toList.length) := rfl
            generalize hnw : cur.toList.take (i * st' + q) ++ (a.eval x).cells.toList ++ cur.toList.drop (i * st' + q + (a.eval x).cells.toList.length) = new at hrun hnew
            have hnsz : new.toArray.size = cur.size := by rw [← hnw, List.size_toArray, setAll_length _ _ _ (by simpa using hsz2)]; simp
            have c := Chg.setRow0 (F := F) b cur new.toArray U hb hnsz hF
            have htake : new.take (es.length * st') = (cur.toList.take (es.length * st')).take (i * st' + q) ++ (a.eval x).cells.toList ++ (cur.toList.take (es.length * st')).drop (i * st' + q + (a.eval x).cells.toList.length) := by
              have hcl : (cur.toList.take (es.length * st')).length = es.length * st' := by rw [hc.len, hfl]
              apply List.ext_getElem?
              intro j
              rw [List.getElem?_take, setAll_get _ _ _ (by rw [hcl, hcv.len, hlv]; omega), ← hnw, setAll_get _ _ _ (by simpa using hsz2), List.getElem?_take]
              by_cases hj : j < es.length * st'
              · rw [if_pos hj, if_pos hj]
              · rw [if_neg hj, if_neg (by rw [hcv.len, hlv]; omega), if_neg hj]
            refine ⟨_, undef, _, F, m, hrun, .inr ⟨rfl, rfl⟩, ?_⟩
            simp only [hgv]
            refine hR.turn (δ := .row st' (es.set i (elemSet (es.getD i .any) q (X.val σ) n))) hg (by rw [hgσ, hgv]; rfl) (c.mono (fun k hk => by rw [hk]; exact hmg)) (fun c q hq => by rw [setRow_size]; exact hR.wf c q hq) (.inr ⟨b, _, U, hmg, setRow_heap w b cur new.toArray U (0, 0) hb, hs0, hnl, ?_, ?_, hF⟩) (by intro h; cases h)
            · rw [List.length_set, hnsz]; exact hsz'
            · rw [List.length_set]
              have := hset.stable c (fun _ _ h => h)
              rw [← htake] at this
              simpa using this
      | _ => rw [hgv] at hp; exact hp.elim
    | ptr cs => rw [hv] at hnp; exact hnp.elim
    | _ => rw [hv] at hp; exact hp.elim

theorem RelF.drew (hR : RelF G τ a.tmps w F m) : RelF G τ a.tmps w.drew F m := by
  have c : Chg w F noBlocks w.drew F := (Chg.refl w F noBlocks).drew
  exact ⟨hR.size, hR.nle, fun t ht => (hR.slots t ht).still c, fun g hg => (hR.blks g hg).stable c (fun _ _ h => h) (fun e => by have := hR.blks g hg; rw [e] at this; exact this) (fun _ _ _ => id), hR.inj, hR.wf, hR.chg.drew, hR.own, hR.par⟩

/-- A slice's elements, as they lie in memory. -/
theorem seq_val (hR : RelF G τ a.tmps w F m) {st : Nat} {d : D} {y : Value} (hf : Fz w F m d y) (hok : seqOk σ st d) (hag : ∀ t, t ∈ seqRoot d → τ t = σ t) :
    ∃ q c vs, y = .slice q (lenD d) c ∧ lenD d ≤ c ∧ (seqD σ d).length = lenD d ∧ (∀ (e : D), e ∈ seqD σ d → e.cells.length = st) ∧ CellsOK w F m (D.flat (seqD σ d)) vs ∧ (∀ ad, q = some ad → ∀ j v, vs[j]? = some v → w.cell? (ad.add j) = some v) ∧ (q = none → lenD d = 0) := by
  have empty : ∀ (d : D) (q : Option Addr) (c : Nat), seqD σ d = [] → lenD d = 0 → y = .slice q 0 c → ∃ q c vs, y = .slice q (lenD d) c ∧ lenD d ≤ c ∧ (seqD σ d).length = lenD d ∧ (∀ (e : D), e ∈ seqD σ d → e.cells.length = st) ∧ CellsOK w F m (D.flat (seqD σ d)) vs ∧
      (∀ ad, q = some ad → ∀ j v, vs[j]? = some v → w.cell? (ad.add j) = some v) ∧ (q = none → lenD d = 0) := by
    intro d q c h1 h2 hy
    refine ⟨q, c, [], by rw [h2]; exact hy, by omega, by rw [h1, h2]; rfl, (fun e he => by rw [h1] at he; cases he), by rw [h1]; exact .nil, (fun ad _ j v hj => by simp at hj), fun _ => h2⟩
  cases hf with
  | sl0 _ s q c => exact empty _ q c rfl rfl rfl
  | sl _ s es b off cap u hs hle hlen hu hr =>
    rcases (Fz.sl m s es b off cap u hs hle hlen hu hr : Fz w F m _ _).slCells with ⟨rfl, _⟩ | ⟨b', off', cap', us, he, _, _, hl, hc, huc⟩
    · exact empty _ _ _ rfl rfl rfl
    · obtain ⟨⟨rfl, rfl⟩, rfl⟩ : (b = b' ∧ off = off') ∧ cap = cap' := by simpa using he
      rcases hok with rfl | rfl
      · exact ⟨_, cap, us, rfl, hle, rfl, hl, hc.names none_le, (fun ad had j v hj => by
          obtain rfl : (⟨b, off, none⟩ : Addr) = ad := by simpa using had
          rw [Addr.add_lit]
          exact (huc j v hj).1), fun h => by cases h⟩
      · exact empty _ _ _ rfl rfl rfl
  | nul _ q => exact empty _ q 0 rfl rfl rfl
  | own _ g s n b cap cur T hg hs hle hb hcap =>
    obtain ⟨hgn, rfl, hok⟩ := hok
    have h2 := hR.blks g hgn
    rw [hag g (List.mem_singleton.2 rfl)] at h2
    cases hgv : σ g with
    | row s' es =>
      rw [hgv] at h2 hok
      obtain ⟨rfl, hn⟩ := hok
      have hD : seqD σ (.own g s' n) = es.take n := by simp [seqD, hgv]
      rw [hD]
      rcases h2 with ⟨rfl, h2⟩ | ⟨b', cur', U, hmg, hb', _, hel, hsz, hc, _⟩
      · rw [hg] at h2; cases h2
      · obtain rfl : b = b' := by rw [hg] at hmg; simpa using hmg
        have hpart := part_cells hs hel hc 0 n (Nat.zero_le _) hn
        simp only [Nat.zero_mul, List.drop_zero, Nat.sub_zero] at hpart
        refine ⟨_, cap, _, rfl, hle, by rw [hpart.2.1]; rfl, hpart.1, hpart.2.2, (fun ad had j v hj => ?_), fun h => by cases h⟩
        obtain rfl : (⟨b, 0, none⟩ : Addr) = ad := by simpa using had
        rw [Addr.add_lit, Nat.zero_add, cell_of_row w b j cur' U (0, 0) hb', ← Array.getElem?_toList]
        rw [List.getElem?_take] at hj
        split at hj
        · rw [List.getElem?_take] at hj
          split at hj
          · exact hj
          · cases hj
        · cases hj
    | _ => rw [hgv] at hok; exact hok.elim
  | own0 _ g s q hg =>
    have hD : seqD σ (.own g s 0) = [] := by simp only [seqD]; split <;> simp
    exact empty _ q 0 hD rfl rfl
  | _ => exact hok.elim

/-- Appending in place. -/
theorem run_append_in {T ty e : TypeId} {i : TypeInfo} (ht : P.underlying T = some (.slice e)) (hi : P.info? e = some i) {w : World} {g n cap : Nat} {cur : Array Value} {U : TypeId} (hg : w.heap[g]? = some (.cells cur U (0, 0)))
    {ad : Addr} {m c : Nat} {news : List Value} (hl : news.length = m * i.size) (hnews : ∀ j u, news[j]? = some u → w.cell? (ad.add j) = some u) (h1 : ∀ u ∈ news, u.oneCell' = true) (hroom : n + m ≤ cap) (hfit : n * i.size + news.length ≤ cur.size) :
    (Builtin.append_ #[T, T] ty #[.slice (some ⟨g, 0, none⟩) n cap, .slice (some ad) m c]).run P w =
      .ok (.slice (some ⟨g, 0, none⟩) (n + m) cap) (w.setRow g (cur.toList.take (n * i.size) ++ news ++ cur.toList.drop (n * i.size + news.length)).toArray) := by
  have hf := run_firstCells_some (P := P) w i.size m ad m c news hl hnews
  have hst := run_storeCells_at P g (n * i.size) U news 0 cur w hg (by simpa using hfit) h1
  simp only [Nat.add_zero] at hst
  simp [Builtin.append_, run_underlying ht, sizeOf, typeInfo, hi, Builtin.lenOf, hroom, hf, Addr.add_lit, hst]
theorem run_append_no {T ty e : TypeId} {i : TypeInfo} (ht : P.underlying T = some (.slice e)) (hi : P.info? e = some i) {w : World} {q q' : Option Addr} {n cap c : Nat} (hn : n ≤ cap) :
    (Builtin.append_ #[T, T] ty #[.slice q n cap, .slice q' 0 c]).run P w = .ok (.slice q n cap) w := by
  have hf : ∀ w : World, (Builtin.firstCells i.size 0 (.slice q' 0 c)).run P w = .ok #[] w := by
    intro w
    cases q' with
    | none => simp [Builtin.firstCells]
    | some b => simpa using run_firstCells_some (P := P) w i.size 0 b 0 c [] (by simp) (by simp)
  cases q <;> simp [Builtin.append_, run_underlying ht, sizeOf, typeInfo, hi, Builtin.lenOf, hn, hf, storeCells]

theorem run_append_new {T ty e : TypeId} {i : TypeInfo} {z : Value} (ht : P.underlying T = some (.slice e)) (hi : P.info? e = some i) (hz : i.zero = some z) {w : World} {q : Option Addr} {ad : Addr} {n cap k c : Nat} {olds news : List Value}
    (hlo : olds.length = n * i.size) (holds : ∀ b, q = some b → ∀ j v, olds[j]? = some v → w.cell? (b.add j) = some v) (hq : q = none → n = 0 ∧ cap = 0) (hl : news.length = k * i.size) (hnews : ∀ j v, news[j]? = some v → w.cell? (ad.add j) = some v)
    (h0 : 0 < k) (hg : cap < n + k) (hnc : n ≤ cap) (h1 : n + k ≤ 1099511627776) (h2 : (n + k) * i.bytes ≤ 1099511627776) :
    ∃ cap', n + k ≤ cap' ∧ (Builtin.append_ #[T, T] ty #[.slice q n cap, .slice (some ad) k c]).run P w = .ok (.slice (some ⟨w.heap.size, 0, none⟩) (n + k) cap') (w.drew.alloc (.cells ((olds ++ news).toArray ++ Builtin.zeroCells z.cells (cap' - (n + k))) e)) := by
  cases q with
  | none =>
    obtain ⟨rfl, rfl⟩ := hq rfl
    obtain rfl : olds = [] := List.eq_nil_of_length_eq_zero (by simpa using hlo)
    have hrun := run_append_nil (P := P) w T ty e i z ht hi hz ad k c news hl hnews h0 (by omega) (by simp at h2; omega)
    refine ⟨grownCap w k 0 e, by simpa using grownCap_ge w k 0 e, ?_⟩
    simpa using hrun
  | some b =>
    have hfits : Builtin.nextslicecap (n + k) cap * i.bytes ≤ 281474976710656 := growslice_fits (by omega) (by omega)
    have hrun := run_append_grow (P := P) w T ty e i z ht hi hz b n cap olds hlo (holds b rfl) ad k c news hl hnews hg (by omega) hfits
    exact ⟨grownCap w (n + k) cap e, grownCap_ge w _ _ e, by rw [hrun]; simp⟩

/-- A row is named anew: its old name is dead. -/
theorem RelF.rename (hR : RelF G τ a.tmps w F m) {h g d : Nat} {δ e : D} {v : Value} (hh : nb ≤ h) (hbl : (τ h).isBlk = true) (hf : freeN τ g) (hd : d < G.n) {w' : World} (c : Chg w F (fun b => m h = some (some b)) w' F) (wf : ∀ b o, F b o → b < w'.heap.size)
    (hb : ∀ m' : Names, (∀ g p, m g = some p → m' g = some p) → m' g = m h → Blk w' F m' g δ) (hv : ∀ m' : Names, m' g = m h → Fz w' F m' e v) (hmh : m h ≠ none) :
    ∃ m', RelF G (((τ.set h .any).set g δ).set d e) (a.tmps.setIfInBounds d v) w' F m' := by
  have h1 := hR.turn (δ := .any) hh hbl c wf (by trivial) (by intro h; cases h)
  have hgh : g ≠ h := fun e => by rw [e] at hf; rw [hf.2] at hbl; cases hbl
  have hmg : m g = none := by have := hR.blks g hf.1; rw [hf.2] at this; exact this
  cases hm : m h with
  | none => exact absurd hm hmh
  | some p =>
    have h2 := h1.name (g := g) (δ := δ) hf.1 (by rw [Env.set_ne _ _ _ _ hgh]; exact hf.2) (Chg.refl w' F noBlocks) wf p (hb _ (fun g' q hq => by
        rw [if_neg (fun e => by rw [e, hmg] at hq; cases hq)]
        exact hq) (by simp [hm])) (fun b hpb g' hg' hb' hm' => by
        by_cases e' : g' = h
        · subst e'; rw [Env.set_same] at hb'; cases hb'
        · rw [Env.set_ne _ _ _ _ e'] at hb'
          exact e' (hR.inj g' h b hg' hh hb' hbl hm' (by rw [hm, hpb]))) (fun b hpb => by
        have := hR.own h b hh hbl (by rw [hm, hpb])
        exact this)
    exact ⟨_, h2.slot hd (hv _ (by simp [hm]))⟩

theorem in_app {d g T e st by_ : Nat} {sz : Option Nat} {zs : List D} {i : TypeInfo} {x y : Operand} {X Y : Opd} (ho : o.op = .call { callee := .builtin .append, args := #[x, y], argTypes := #[T, T] }) (hT : P.underlying T = some (.slice e)) (hsz : szOf P e = some sz)
    (hnn : sz.getD 1 = st) (h0 : 0 < st) (hz : zsOf P e = some zs) (hzn : zs.length = sz.getD 1) (hi : P.info? e = some i) (hby : i.bytes = by_) (hx : opd x = some X) (hy : opd y = some Y) (hdst : o.dst = some d) (hd : d < G.n)
    (h : In.ok σ (.app d g X Y st by_)) : OpOK P G o (In.ent σ (.app d g X Y st by_)) σ (In.upd σ (.app d g X Y st by_)) := by
  obtain ⟨hfr, hsl, hxo, hyo, hbytes, hlen⟩ := h
  obtain ⟨_, i', _, hi', hs', _⟩ := szOf_some hsz
  rw [hi] at hi'
  obtain rfl := Option.some.inj hi'
  rw [hnn] at hs'
  obtain ⟨iz, z, hiz, hzz, hzs, _, hzc⟩ := zero_cells hz hzn
  rw [hi] at hiz
  obtain rfl := Option.some.inj hiz
  rw [hnn] at hzs
  have hrun : ∀ (a' : Act) (w w' : World) (v : Value), (Builtin.append_ #[T, T] o.type #[a'.eval x, a'.eval y]).run P w = .ok v w' → (execOp a'.eval o).run P w = .ok (.value v) w' := by
    intro a' w w' v hr
    simp [execOp, ho, resolve, invoke, builtin, hr]
  refine .of_run (fun p hp => ?_) (fun τ a w F m hag hR => ?_)
  · simp only [In.upd] at hp
    simp only [In.ent]
    cases hv : X.val σ with
    | own h s n =>
      rw [hv] at hp
      simp only [List.mem_cons, List.not_mem_nil, or_false] at hp
      rcases hp with rfl | rfl | rfl <;> simp [seqRoot]
    | _ =>
      rw [hv] at hp
      simp only [List.mem_cons, List.not_mem_nil, or_false] at hp
      rcases hp with rfl | rfl <;> simp
  · simp only [In.ent] at hag
    have hgf : freeN τ g := ⟨hfr.1, by rw [hag g (List.mem_cons_self ..)]; exact hfr.2⟩
    have hxf := opd_fz hR hx (fun t ht => hag t (List.mem_cons_of_mem _ (List.mem_append_left _ (List.mem_append_left _ (List.mem_append_left _ ht)))))
    have hyf := opd_fz hR hy (fun t ht => hag t (List.mem_cons_of_mem _ (List.mem_append_left _ (List.mem_append_left _ (List.mem_append_right _ ht)))))
    have hxr : ∀ t, t ∈ seqRoot (X.val σ) → τ t = σ t := fun t ht => hag t (List.mem_cons_of_mem _ (List.mem_append_left _ (List.mem_append_right _ ht)))
    obtain ⟨q', c, vs, hye, _, hyl, hyc, hvs, hvc, hyn⟩ := seq_val hR hyf hyo (fun t ht => hag t (List.mem_cons_of_mem _ (List.mem_append_right _ ht)))
    obtain ⟨q, cap, us, hxe, hxcap, hxl, hxc, hus, huc, hxn⟩ := seq_val hR hxf hxo hxr
    simp only [In.upd]
    generalize hfs : seqD σ (Y.val σ) = fs at hyl hyc hvs
    generalize hk : lenD (Y.val σ) = k at hye hyl hyn hbytes hlen
    have hvl : vs.length = k * i.size := by rw [hvs.len, flat_len hyc, hyl, hs']
    rw [hdst]
    -- the appended cells, in a new row
    have fresh : ∀ (es : List D) (us : List Value) (n cap' : Nat) (τ' : Env), es.length = n → (∀ (e : D), e ∈ es → e.cells.length = st) → CellsOK w F m (D.flat es) us → n + k ≤ cap' → RelF G τ' a.tmps w F m → freeN τ' g →
        ∃ m', RelF G ((τ'.set g (.row st (es ++ fs))).set d (.own g st (n + k))) (a.tmps.setIfInBounds d (.slice (some ⟨w.drew.heap.size, 0, none⟩) (n + k) cap')) (w.drew.alloc (.cells ((us ++ vs).toArray ++ Builtin.zeroCells z.cells (cap' - (n + k))) e)) F m' := by
      intro es us n cap' τ' hel hec hus hcap' hR' hf'
      have hall : ∀ (e : D), e ∈ es ++ fs → e.cells.length = st := fun e he => (List.mem_append.1 he).elim (hec e) (hyc e)
      have hc := hus.append hvs
      rw [← flat_append] at hc
      have hcl : (us ++ vs).length = (n + k) * st := by rw [hc.len, flat_len hall, List.length_append, hel, hyl]
      refine hR'.drew.madeRow (s := st) (k := n + k) (cap := cap') (es := es ++ fs) hf' hd h0 (by rw [List.length_append, hel, hyl]) hcap' ?_ hall ?_
      · rw [Array.size_append, List.size_toArray, hcl, size_zeroCells, hzs, ← Nat.add_mul]
        exact Nat.mul_le_mul_right _ (by omega)
      · have : ((us ++ vs).toArray ++ Builtin.zeroCells z.cells (cap' - (n + k))).toList.take ((es ++ fs).length * st) = us ++ vs := by
          rw [List.length_append, hel, hyl, ← hcl, Array.toList_append]
          exact List.take_left' rfl
        rw [this]
        exact hc.stable ((Chg.refl w F noBlocks).drew) (fun _ _ h => h)
    by_cases hk0 : k = 0
    · -- nothing is appended
      obtain rfl := hk0
      obtain rfl : fs = [] := List.eq_nil_of_length_eq_zero hyl
      have hr := hrun a w w (.slice q (lenD (X.val σ)) cap) (by rw [hxe, hye]; exact run_append_no hT hi hxcap)
      cases hv : X.val σ with
      | nul =>
        rw [hv] at hxf hxe hr
        have hxe' : a.eval x = .slice q 0 cap := hxe
        rw [hxe'] at hxf
        have h1 := hR.name (g := g) (δ := .row st []) hgf.1 hgf.2 (Chg.refl w F noBlocks) hR.wf none (.inl ⟨rfl, by simp⟩) (fun b h => by cases h) (fun b h => by cases h)
        cases hxf with
        | nul _ _ => exact ⟨_, _, w, F, _, hr, .inl rfl, h1.slot hd (.own0 _ g st q (by simp))⟩
      | own h s n =>
        rw [hv] at hxf hxe hr hxo hxr
        obtain ⟨hh, rfl, hxo⟩ := hxo
        have hhσ := hxr h (List.mem_singleton.2 rfl)
        have hblk := hR.blks h hh
        rw [hhσ] at hblk
        cases hhv : σ h with
        | row s' es =>
          rw [hhv] at hxo hblk
          obtain ⟨rfl, hn⟩ := hxo
          have hD : seqD σ (.own h s' n) = es.take n := by simp [seqD, hhv]
          rw [hD, List.append_nil]
          rw [hv, hD] at hxl hxc
          have hxe' : a.eval x = .slice q n cap := hxe
          rw [hxe'] at hxf
          have hmh : m h ≠ none := by rcases hblk with ⟨_, h⟩ | ⟨_, _, _, h, _⟩ <;> rw [h] <;> intro h <;> cases h
          obtain ⟨m', hR'⟩ := hR.rename (g := g) (d := d) (δ := .row s' (es.take n)) (e := .own g s' (n + 0)) (v := .slice q n cap) hh (by rw [hhσ, hhv]; rfl) hgf hd (Chg.refl w F _) hR.wf (fun m' hm hg => by
              rcases hblk with ⟨rfl, h2⟩ | ⟨b, cur, U, hmh', hb, hs0, hel, hsz', hc, hF⟩
              · exact .inl ⟨by simp, by rw [hg]; exact h2⟩
              · have hp := part_cells hs0 hel hc 0 n (Nat.zero_le _) hn
                simp only [Nat.zero_mul, List.drop_zero, Nat.sub_zero] at hp
                refine .inr ⟨b, cur, U, by rw [hg]; exact hmh', hb, hs0, hp.1, by rw [hp.2.1]; exact Nat.le_trans (Nat.mul_le_mul_right _ hn) hsz', ?_, hF⟩
                rw [hp.2.1]
                have := hp.2.2.names hm
                rwa [List.take_take, Nat.min_eq_left (Nat.mul_le_mul_right _ hn)] at this) (fun m' hg => by
              cases hxf with
              | own _ _ _ _ b cap cur U hm' hs0 hle hb hcap => exact .own m' g s' n b cap cur U (by rw [hg]; exact hm') hs0 hle hb hcap
              | own0 _ _ _ _ hm' => exact .own0 m' g s' q (by rw [hg]; exact hm')) hmh
          exact ⟨_, _, w, F, m', hr, .inl rfl, hR'⟩
        | _ => rw [hhv] at hxo; exact hxo.elim
      | sl => rw [hv] at hsl; exact hsl.elim
      | _ => rw [hv] at hxo; exact hxo.elim
    · have hkp : 0 < k := by omega
      obtain ⟨ad, rfl⟩ : ∃ ad, q' = some ad := by
        cases q' with
        | none => exact absurd (hyn rfl) hk0
        | some ad => exact ⟨ad, rfl⟩
      have hvc := hvc ad rfl
      have hul : us.length = lenD (X.val σ) * i.size := by rw [hus.len, flat_len hxc, hxl, hs']
      have hgrow : cap < lenD (X.val σ) + k → (q = none → lenD (X.val σ) = 0 ∧ cap = 0) → ∃ cap', lenD (X.val σ) + k ≤ cap' ∧ (execOp a.eval o).run P w = .ok (.value (.slice (some ⟨w.drew.heap.size, 0, none⟩) (lenD (X.val σ) + k) cap')) (w.drew.alloc (.cells ((us ++ vs).toArray ++ Builtin.zeroCells z.cells (cap' - (lenD (X.val σ) + k))) e)) := by
        intro hcap hq
        obtain ⟨cap', h1, h2⟩ := run_append_new (ty := o.type) hT hi hzz (q := q) (ad := ad) (n := lenD (X.val σ)) (cap := cap) (k := k) (c := c) hul huc hq hvl hvc hkp hcap hxcap (by omega) (by rw [hby]; omega)
        exact ⟨cap', h1, hrun a w _ _ (by rw [hxe, hye]; exact h2)⟩
      cases hv : X.val σ with
      | nul =>
        rw [hv] at hxf hxe hgrow hxl hus
        have hxe' : a.eval x = .slice q 0 cap := hxe
        rw [hxe'] at hxf
        have hus' : CellsOK w F m (D.flat []) us := hus
        cases hxf with
        | nul _ _ =>
          obtain ⟨cap', h1, h2⟩ := hgrow (by simp only [lenD]; omega) (fun _ => ⟨rfl, rfl⟩)
          obtain ⟨m', hR'⟩ := fresh [] us 0 cap' τ rfl (fun e he => by cases he) hus' (by simpa [lenD] using h1) hR hgf
          simp only [List.nil_append, Nat.zero_add] at hR'
          simp only [lenD, Nat.zero_add] at h2
          exact ⟨_, _, _, F, m', h2, .inl rfl, hR'⟩
      | own h s n =>
        rw [hv] at hxf hxe hxo hxr hgrow hxl hxc hus hul
        obtain ⟨hh, rfl, hxo⟩ := hxo
        have hhσ := hxr h (List.mem_singleton.2 rfl)
        have hblk := hR.blks h hh
        rw [hhσ] at hblk
        cases hhv : σ h with
        | row s' es =>
          rw [hhv] at hxo hblk
          obtain ⟨rfl, hn⟩ := hxo
          have hD : seqD σ (.own h s' n) = es.take n := by simp [seqD, hhv]
          rw [hD]
          rw [hD] at hxl hxc hus
          have hxe' : a.eval x = .slice q n cap := hxe
          rw [hxe'] at hxf
          have hbl : (τ h).isBlk = true := by rw [hhσ, hhv]; rfl
          have hgh : g ≠ h := fun e => by rw [e] at hgf; rw [hgf.2] at hbl; cases hbl
          have kill : RelF G (τ.set h .any) a.tmps w F m := hR.turn (δ := .any) hh hbl (Chg.refl w F _) hR.wf (by trivial) (by intro h; cases h)
          have hgf' : freeN (τ.set h .any) g := ⟨hgf.1, by rw [Env.set_ne _ _ _ _ hgh]; exact hgf.2⟩
          have grown : cap < n + k → (q = none → n = 0 ∧ cap = 0) → ∃ n_1 v w' F' m', (execOp a.eval o).run P w = .ok n_1 w' ∧ (n_1 = .value v ∨ (n_1 = .skip ∧ v = undef)) ∧ RelF G (((τ.set h .any).set g (.row s' (es.take n ++ fs))).set d (.own g s' (n + k))) (a.put (some d) v).tmps w' F' m' := by
            intro hcap hq
            obtain ⟨cap', h1, h2⟩ := hgrow hcap hq
            obtain ⟨m', hR'⟩ := fresh (es.take n) us n cap' _ hxl hxc hus h1 kill hgf'
            exact ⟨_, _, _, F, m', h2, .inl rfl, hR'⟩
          cases hxf with
          | own0 _ _ _ _ hm' => exact grown (by omega) (fun _ => ⟨rfl, rfl⟩)
          | own _ _ _ _ b cap cur U hm' hs0 hle hb hcap =>
            by_cases hroom : n + k ≤ cap
            · rcases hblk with ⟨_, h2⟩ | ⟨b', cur', U', hmh', hb', _, hel, hsz', hc, hF⟩
              · rw [hm'] at h2; cases h2
              · obtain rfl : b = b' := by rw [hm'] at hmh'; simpa using hmh'
                rw [hb] at hb'
                obtain ⟨rfl, rfl⟩ : cur = cur' ∧ U = U' := by simpa using hb'
                have hfit : n * i.size + vs.length ≤ cur.size := by
                  rw [hvl, ← Nat.add_mul, hs']
                  exact Nat.le_trans (Nat.mul_le_mul_right _ hroom) hcap
                have hr := hrun a w _ _ (by rw [hxe', hye]; exact run_append_in (P := P) (ty := o.type) hT hi (w := w) (n := n) (cap := cap) hb (ad := ad) (m := k) (c := c) hvl hvc hvs.one hroom hfit)
                generalize hnw : cur.toList.take (n * i.size) ++ vs ++ cur.toList.drop (n * i.size + vs.length) = new at hr
                have hnsz : new.toArray.size = cur.size := by rw [← hnw, List.size_toArray, setAll_length _ _ _ (by simpa using hfit)]; simp
                have cc := Chg.setRow0 (F := F) b cur new.toArray U hb hnsz hF
                have hall : ∀ (e : D), e ∈ es.take n ++ fs → e.cells.length = s' := fun e he => (List.mem_append.1 he).elim (hxc e) (hyc e)
                have hxl' : (es.take n).length = n := hxl
                have hp := part_cells hs0 hel hc 0 n (Nat.zero_le _) hn
                simp only [Nat.zero_mul, List.drop_zero, Nat.sub_zero] at hp
                have hcells := hp.2.2.append hvs
                rw [← flat_append, List.take_take, Nat.min_eq_left (Nat.mul_le_mul_right _ hn)] at hcells
                have htake : new.take ((es.take n ++ fs).length * s') = cur.toList.take (n * s') ++ vs := by
                  have hl1 : (cur.toList.take (n * s')).length = n * s' := by rw [List.length_take]; simp; rw [hs'] at hfit; omega
                  rw [← hnw, hs', List.length_append, hxl', hyl, Nat.add_mul]
                  exact List.take_left' (by rw [List.length_append, hl1, hvl, hs'])
                obtain ⟨m', hR'⟩ := hR.rename (g := g) (d := d) (δ := .row s' (es.take n ++ fs)) (e := .own g s' (n + k)) (v := .slice (some ⟨b, 0, none⟩) (n + k) cap) hh hbl hgf hd (cc.mono (fun k hk => by rw [hk]; exact hm')) (fun c q hq => by rw [setRow_size]; exact hR.wf c q hq) (fun m' hm hg => by
                    refine .inr ⟨b, new.toArray, U, by rw [hg]; exact hm', setRow_heap w b cur new.toArray U (0, 0) hb, hs0, hall, ?_, ?_, hF⟩
                    · rw [List.length_append, hxl', hyl, hnsz]; exact Nat.le_trans (Nat.mul_le_mul_right _ hroom) hcap
                    · have : new.toArray.toList = new := rfl
                      rw [this, htake]
                      exact hcells.stable cc hm) (fun m' hg => .own m' g s' (n + k) b cap new.toArray U (by rw [hg]; exact hm') hs0 hroom (setRow_heap w b cur new.toArray U (0, 0) hb) (by rw [hnsz]; exact hcap)) (by rw [hm']; intro h; cases h)
                exact ⟨_, _, _, F, m', hr, .inl rfl, hR'⟩
            · exact grown (by omega) (fun h => by cases h)
        | _ => rw [hhv] at hxo; exact hxo.elim
      | sl => rw [hv] at hsl; exact hsl.elim
      | _ => rw [hv] at hxo; exact hxo.elim

end
end Go.Proofs.Ytimpofjjndbofaa
