/-
  Rows of one's own, lent to a call that takes what stands still: they come back unchanged. No condition.
-/
import Derived.Test.YtedmegmhjmabcaaVLib
set_option maxHeartbeats 4000000
set_option maxRecDepth 100000
set_option linter.unusedVariables false
set_option linter.unusedSimpArgs false
namespace Go.Proofs.Ytedmegmhjmabcaa
open Go.RowKit

/-- A row of numbers, truths and the like. -/
def flatRow (d : D) : Prop := ∃ s es, d = .row s es ∧ ∀ c, c ∈ D.flat es → ∃ x, c = .v x
/-- A datum with rows of one's own, and the same with those standing still. -/
inductive Lent (H : List D) : D → D → Prop
  | same (d : D) (h : d.pur = true) : Lent H d d
  | own (i s : Nat) (es : List D) (h : H[i]? = some (.row s es)) : Lent H (.own (nb + i) s es.length) (.sl s es)
  | agg (cs ds : List D) (hl : cs.length = ds.length) (h : ∀ (i : Nat) (c d : D), cs[i]? = some c → ds[i]? = some d → Lent H c d) : Lent H (.agg cs) (.agg ds)
  | tup (cs ds : List D) (hl : cs.length = ds.length) (h : ∀ (i : Nat) (c d : D), cs[i]? = some c → ds[i]? = some d → Lent H c d) : Lent H (.tup cs) (.tup ds)
/-- The cells that stand still, and those of the blocks that are lent. -/
def lentF (F : Cells) (m : Names) (n : Nat) : Cells := fun b o => F b o ∨ ∃ i, i < n ∧ m (nb + i) = some (some b)
theorem lent_fz {w : World} {F : Cells} {m : Names} {H : List D} (hH : ∀ (i : Nat) (d : D), H[i]? = some d → flatRow d ∧ Blk w F m (nb + i) d) {c d : D} (hl : Lent H c d) :
    ∀ {x : Value}, Fz w F m c x → Fz w (lentF F m H.length) noNames d x := by
  have keep : ∀ {d : D} {x : Value}, Fz w F m d x → Fz w (lentF F m H.length) m d x := fun h => h.still (T := fun _ => True) ⟨rfl, rfl, rfl, Nat.le_refl _, fun _ _ h => (h trivial).elim, fun _ cur _ _ h => ⟨cur, h, rfl⟩, fun _ _ h => ⟨Or.inl h, rfl⟩, fun _ _ _ _ h => (h trivial).elim, Nat.le_refl _⟩
  induction hl with
  | same d hp => intro x h; exact (keep h).pure hp noNames
  | own i s es hi =>
    intro x h
    obtain ⟨⟨s', es', he, hflat⟩, hB⟩ := hH i _ hi
    cases he
    have hlt : i < H.length := (List.getElem?_eq_some_iff.1 hi).1
    generalize hn : es.length = n at h
    cases h with
    | own _ _ _ _ b cap cur U hg hs hle hb hcap =>
      subst hn
      rcases hB with ⟨_, hm⟩ | ⟨b', cur', T, hm, hb', hs', hlen, hsz, hc, hF⟩
      · rw [hg] at hm; cases hm
      · rw [hg] at hm
        obtain rfl : b = b' := by injection hm with hm; injection hm
        rw [hb] at hb'
        obtain ⟨rfl, rfl⟩ : cur = cur' ∧ U = T := by injection hb' with hb'; injection hb' with h1 h2; exact ⟨h1, h2⟩
        have hc' : CellsOK w (lentF F m H.length) noNames (D.flat es) (cur.toList.take (es.length * s)) := ⟨hc.len, hc.one, fun j d u hd hu => by
          obtain ⟨y, rfl⟩ := hflat d (List.mem_of_getElem? hd)
          have := hc.fz j _ u hd hu
          cases this
          exact .v _ _⟩
        refine Fz.ofCells hs hle hlen hc' (fun j v hj => ⟨?_, Or.inr ⟨i, hlt, hg⟩⟩)
        have hj2 : j < es.length * s := by
          have := (List.getElem?_eq_some_iff.1 hj).1
          rw [List.length_take] at this
          omega
        rw [List.getElem?_take_of_lt hj2] at hj
        rw [Nat.zero_add, cell_of_row w b j cur U (0, 0) hb, ← Array.getElem?_toList]
        exact hj
    | own0 _ _ _ a hg =>
      obtain rfl : es = [] := List.length_eq_zero_iff.1 hn
      exact .sl0 _ s a 0
  | agg cs ds hl h ih =>
    intro x h
    cases h with
    | agg _ _ us hl' h1 hr =>
      exact .agg _ _ us (hl'.trans hl) h1 (fun i d u hd hu => by
        have hlt : i < cs.length := by rw [hl]; exact (List.getElem?_eq_some_iff.1 hd).1
        have hc := List.getElem?_eq_getElem hlt
        exact ih i _ d hc hd (hr i _ u hc hu))
  | tup cs ds hl h ih =>
    intro x h
    cases h with
    | tup _ _ us hl' hr =>
      exact .tup _ _ us (hl'.trans hl) (fun i d u hd hu => by
        have hlt : i < cs.length := by rw [hl]; exact (List.getElem?_eq_some_iff.1 hd).1
        have hc := List.getElem?_eq_getElem hlt
        exact ih i _ d hc hd (hr i _ u hc hu))
mutual
/-- Nothing in it stands still. -/
def D.noSl : D → Bool
  | .v _ => true
  | .nul => true
  | .own _ _ _ => true
  | .agg cs => D.noSlL cs
  | .tup cs => D.noSlL cs
  | _ => false
def D.noSlL : List D → Bool
  | [] => true
  | d :: l => D.noSl d && D.noSlL l
end
theorem D.noSlL_iff : ∀ {l : List D}, D.noSlL l = true ↔ ∀ d, d ∈ l → d.noSl = true
  | [] => by simp [D.noSlL]
  | d :: l => by rw [D.noSlL, Bool.and_eq_true, D.noSlL_iff (l := l)]; simp
theorem fz_noSl {w : World} {F F' : Cells} {m : Names} {d : D} {x : Value} (h : Fz w F m d x) : d.noSl = true → Fz w F' m d x := by
  induction h with
  | any m x => intro hp; cases hp
  | v m x => intro _; exact .v m x
  | sl0 m s a cap => intro hp; cases hp
  | sl m s es b off cap u hs hle hlen hu hr ih => intro hp; cases hp
  | nul m a => intro _; exact .nul m a
  | agg m cs us hl h1 hr ih => intro hp; exact .agg m cs us hl h1 (fun i d u hd hu => ih i d u hd hu (D.noSlL_iff.1 hp d (List.mem_of_getElem? hd)))
  | tup m cs us hl hr ih => intro hp; exact .tup m cs us hl (fun i d u hd hu => ih i d u hd hu (D.noSlL_iff.1 hp d (List.mem_of_getElem? hd)))
  | ifc m t d x h ih => intro hp; cases hp
  | bnd m t name d x h ih => intro hp; cases hp
  | mv m f d x h ih => intro hp; cases hp
  | fn m f cs us hl hr ih => intro hp; cases hp
  | ptr m cs b off u hu hr ih => intro hp; cases hp
  | ref m g o b hg => intro hp; cases hp
  | own m g s n b cap cur U hg hs hle hb hcap => intro _; exact .own m g s n b cap cur U hg hs hle hb hcap
  | own0 m g s a hg => intro _; exact .own0 m g s a hg
  | owo m g s o n b cap cur U hg hs hle hb hcap => intro hp; cases hp
  | owo0 m g s o a cap p hg => intro hp; cases hp
  | eref m g s i o b hg => intro hp; cases hp
  | gho m l L e k x => intro hp; cases hp
  | kow m κ s n b cap cur U hκ hg hs hle hb hcap => intro hp; cases hp
/-- A row stays the same where its block does. -/
theorem blk_same {w w' : World} {F F' : Cells} {m m' : Names} {g g' : Nat} {d : D} (hd : flatRow d) (h : Blk w F m g d) (hm : m' g' = m g) (hb : ∀ b, m g = some (some b) → w'.heap[b]? = w.heap[b]? ∧ ∀ o, ¬ F' b o) : Blk w' F' m' g' d := by
  obtain ⟨s, es, rfl, hflat⟩ := hd
  rcases h with ⟨h1, h2⟩ | ⟨b, cur, T, h1, h2, hs, hlen, hsz, hc, _⟩
  · exact Or.inl ⟨h1, hm.trans h2⟩
  · refine Or.inr ⟨b, cur, T, hm.trans h1, (hb b h1).1.trans h2, hs, hlen, hsz, ⟨hc.len, hc.one, fun j d u hd hu => ?_⟩, (hb b h1).2⟩
    obtain ⟨y, rfl⟩ := hflat d (List.mem_of_getElem? hd)
    have := hc.fz j _ u hd hu
    cases this
    exact .v _ _
theorem Does.lent {P : Program} {f : FuncId} {H ds ds1 H' : List D} {r : D} (h : Does P f [] ds1 r H') (hl : ds.length = ds1.length) (hL : ∀ (i : Nat) (c d : D), ds[i]? = some c → ds1[i]? = some d → Lent H c d)
    (hH : ∀ d, d ∈ H → flatRow d) (hH' : ∀ d, d ∈ H' → flatRow d) (hr : r.noSl = true) :
    Does P f H ds (r.ren ((List.range H'.length).map (fun i => nb + H.length + i))) (H ++ H') := by
  intro w F m xs hxs _ hwf hds hH0 hm0 hinj
  have hHB : ∀ (i : Nat) (d : D), H[i]? = some d → flatRow d ∧ Blk w F m (nb + i) d := fun i d hd => ⟨hH d (List.mem_of_getElem? hd), (hH0 i d hd).2⟩
  have hblk : ∀ i b, i < H.length → m (nb + i) = some (some b) → b < w.heap.size ∧ ∀ o, ¬ F b o := by
    intro i b hi hb
    obtain ⟨⟨s, es, he, _⟩, hB⟩ := hHB i _ (List.getElem?_eq_getElem hi)
    rw [he] at hB
    rcases hB with ⟨_, hm⟩ | ⟨b', cur, T, hm, hb', _, _, _, _, hF⟩
    · rw [hb] at hm; cases hm
    · rw [hb] at hm
      obtain rfl : b = b' := by injection hm with hm; injection hm
      exact ⟨(Array.getElem?_eq_some_iff.1 hb').1, hF⟩
  refine (h w (lentF F m H.length) noNames xs (hxs.trans hl) (Nat.zero_le _) (fun b o hbo => ?_) (fun i d x hd hx => ?_) (fun i d hd => by simp at hd) (fun _ _ => rfl) (fun i j b hi => by simp at hi)).mono ?_
  · rcases hbo with hbo | ⟨i, hi, hb⟩
    · exact hwf b o hbo
    · exact (hblk i b hi hb).1
  · have hlt : i < ds.length := by rw [hl]; exact (List.getElem?_eq_some_iff.1 hd).1
    have hc := List.getElem?_eq_getElem hlt
    exact lent_fz hHB (hL i _ d hc hd) (hds i _ x hc hx)
  · rintro e w' ⟨x, F1, m1, rfl, c, wf1, _, hm1, hx, hB, hinj1, hnew⟩
    have hsame : ∀ b, b < w.heap.size → w'.heap[b]? = w.heap[b]? := fun b hb => c.block b hb (fun ⟨i, hi, _⟩ => by simp at hi)
    have hlo : ∀ i, i < H.length → (fun g => if g < nb then none else if g < nb + H.length then m g else m1 (g - H.length)) (nb + i) = m (nb + i) := fun i hi => by
      show (if nb + i < nb then none else if nb + i < nb + H.length then m (nb + i) else m1 (nb + i - H.length)) = _
      rw [if_neg (by omega), if_pos (by omega)]
    have hhi : ∀ j, (fun g => if g < nb then none else if g < nb + H.length then m g else m1 (g - H.length)) (nb + (H.length + j)) = m1 (nb + j) := fun j => by
      show (if nb + (H.length + j) < nb then none else if nb + (H.length + j) < nb + H.length then m (nb + (H.length + j)) else m1 (nb + (H.length + j) - H.length)) = _
      rw [if_neg (by omega), if_neg (by omega), show nb + (H.length + j) - H.length = nb + j by omega]
    refine ⟨x, fun b o => F1 b o ∧ ¬ ∃ i, i < H.length ∧ m (nb + i) = some (some b), fun g => if g < nb then none else if g < nb + H.length then m g else m1 (g - H.length), rfl, ⟨c.os, c.tape, c.output, c.size, fun b hb _ => hsame b hb, c.shape, fun b o hbo => ?_, fun b o hbo hb hn => ?_, c.drawn⟩, fun b o hbo => wf1 b o hbo.1, hlo, fun g hg => ?_, ?_, fun i d hd => ?_, fun i j b d d' hd hd' hdb hdb' hi hj => ?_, fun i d b hd hdb hi => ?_⟩
    · refine ⟨⟨(c.keep b o (Or.inl hbo)).1, fun ⟨i, hi, hb⟩ => (hblk i b hi hb).2 o hbo⟩, (c.keep b o (Or.inl hbo)).2⟩
    · rcases c.back b o hbo.1 hb (fun ⟨i, hi, _⟩ => by simp at hi) with hF | hF
      · exact hF
      · exact absurd hF hbo.2
    · show (if g < nb then none else if g < nb + H.length then m g else m1 (g - H.length)) = none
      rw [List.length_append] at hg
      by_cases h1 : g < nb
      · rw [if_pos h1]
      · rw [if_neg h1, if_neg (by omega)]
        exact hm1 _ (Or.inr (by omega))
    · have h1 : Fz w' (fun b o => F1 b o ∧ ¬ ∃ i, i < H.length ∧ m (nb + i) = some (some b)) m1 r x := fz_noSl hx hr
      refine h1.ren (fun g p hg => ?_)
      have hgr : nb ≤ g ∧ g < nb + H'.length := by
        apply Decidable.byContradiction
        intro hn
        have := hm1 g (by omega)
        rw [hg] at this
        cases this
      refine ⟨nb + H.length + (g - nb), ?_, ?_⟩
      · unfold nameOf
        rw [if_neg (by omega), List.getElem?_map, List.getElem?_range (by omega)]
        rfl
      · have := hhi (g - nb)
        rw [show nb + (H.length + (g - nb)) = nb + H.length + (g - nb) by omega, show nb + (g - nb) = g by omega] at this
        exact this.trans hg
    · by_cases hi : i < H.length
      · rw [List.getElem?_append_left hi] at hd
        obtain ⟨hfr, hBi⟩ := hHB i d hd
        refine ⟨fun he => (by obtain ⟨s, es, h1, _⟩ := hfr; rw [he] at h1; cases h1), blk_same hfr hBi (hlo i hi) (fun b hb => ⟨hsame b (hblk i b hi hb).1, fun o ho => ho.2 ⟨i, hi, hb⟩⟩)⟩
      · rw [List.getElem?_append_right (by omega)] at hd
        obtain ⟨hne, hBi⟩ := hB _ d hd
        refine ⟨hne, ?_⟩
        have e : nb + i = nb + (H.length + (i - H.length)) := by omega
        rw [e]
        refine blk_same (hH' d (List.mem_of_getElem? hd)) hBi (hhi _) (fun b hb => ⟨rfl, fun o ho => ?_⟩)
        obtain ⟨s, es, he, _⟩ := hH' d (List.mem_of_getElem? hd)
        rw [he] at hBi
        rcases hBi with ⟨_, h2⟩ | ⟨b', cur, T, h2, _, _, _, _, _, hF⟩
        · rw [hb] at h2; cases h2
        · rw [hb] at h2
          obtain rfl : b = b' := by injection h2 with h2; injection h2
          exact hF o ho.1
    · have low : ∀ (i b : Nat), i < H.length → (fun g => if g < nb then none else if g < nb + H.length then m g else m1 (g - H.length)) (nb + i) = some (some b) → b < w.heap.size := fun i b hi hb => (hblk i b hi ((hlo i hi).symm.trans hb)).1
      have high : ∀ (i b : Nat) (d : D), ¬ i < H.length → (H ++ H')[i]? = some d → d.isBlk = true → (fun g => if g < nb then none else if g < nb + H.length then m g else m1 (g - H.length)) (nb + i) = some (some b) → H'[i - H.length]? = some d ∧ m1 (nb + (i - H.length)) = some (some b) ∧ w.heap.size ≤ b := by
        intro i b d hi hd hdb hb
        rw [List.getElem?_append_right (by omega)] at hd
        have e : nb + i = nb + (H.length + (i - H.length)) := by omega
        rw [e, hhi] at hb
        refine ⟨hd, hb, ?_⟩
        rcases hnew _ d b hd hdb hb with ⟨j, hj, _⟩ | h2
        · simp at hj
        · exact h2
      by_cases h1 : i < H.length
      · by_cases h2 : j < H.length
        · exact hinj i j b h1 h2 ((hlo i h1).symm.trans hi) ((hlo j h2).symm.trans hj)
        · have a1 := low i b h1 hi
          have a2 := (high j b d' h2 hd' hdb' hj).2.2
          omega
      · by_cases h2 : j < H.length
        · have a1 := low j b h2 hj
          have a2 := (high i b d h1 hd hdb hi).2.2
          omega
        · have a1 := high i b d h1 hd hdb hi
          have a2 := high j b d' h2 hd' hdb' hj
          have := hinj1 _ _ b d d' a1.1 a2.1 hdb hdb' a1.2.1 a2.2.1
          omega
    · by_cases h1 : i < H.length
      · exact Or.inl ⟨i, h1, (hlo i h1).symm.trans hi⟩
      · rw [List.getElem?_append_right (by omega)] at hd
        have e : nb + i = nb + (H.length + (i - H.length)) := by omega
        rw [e] at hi
        have hi' := (hhi _).symm.trans hi
        rcases hnew _ d b hd hdb hi' with ⟨j, hj, _⟩ | h2
        · simp at hj
        · exact Or.inr h2
/-- What a call answers in rows of one's own may as well stand still. -/
theorem Does.still {P : Program} {f : FuncId} {ds H' : List D} {r r1 : D} (h : Does P f [] ds r H') (hH' : ∀ d, d ∈ H' → flatRow d) (hr : Lent H' r r1) : Does P f [] ds r1 [] := by
  intro w F m xs hxs _ hwf hds hH0 hm0 hinj
  refine (h w F m xs hxs (Nat.zero_le _) hwf hds hH0 hm0 hinj).mono ?_
  rintro e w' ⟨x, F1, m1, rfl, c, wf1, _, hm1, hx, hB, hinj1, hnew⟩
  have hHB : ∀ (i : Nat) (d : D), H'[i]? = some d → flatRow d ∧ Blk w' F1 m1 (nb + i) d := fun i d hd => ⟨hH' d (List.mem_of_getElem? hd), (hB i d hd).2⟩
  have hblk : ∀ i b, i < H'.length → m1 (nb + i) = some (some b) → b < w'.heap.size ∧ w.heap.size ≤ b := by
    intro i b hi hb
    have hget := List.getElem?_eq_getElem hi
    obtain ⟨⟨s, es, he, _⟩, hBi⟩ := hHB i _ hget
    have hisb : (H'[i]).isBlk = true := by rw [he]; rfl
    rw [he] at hBi
    refine ⟨?_, ?_⟩
    · rcases hBi with ⟨_, hm⟩ | ⟨b', cur, T, hm, hb', _⟩
      · rw [hb] at hm; cases hm
      · rw [hb] at hm
        obtain rfl : b = b' := by injection hm with hm; injection hm
        exact (Array.getElem?_eq_some_iff.1 hb').1
    · rcases hnew i _ b hget hisb hb with ⟨j, hj, _⟩ | h2
      · simp at hj
      · exact h2
  refine ⟨x, lentF F1 m1 H'.length, noNames, rfl, ⟨c.os, c.tape, c.output, c.size, c.block, c.shape, fun b o hbo => ⟨Or.inl (c.keep b o hbo).1, (c.keep b o hbo).2⟩, fun b o hbo hb hn => ?_, c.drawn⟩, fun b o hbo => ?_, fun i hi => by simp at hi, fun _ _ => rfl, lent_fz hHB hr hx, fun i d hd => by simp at hd, fun i j b d d' hd => by simp at hd, fun i d b hd => by simp at hd⟩
  · rcases hbo with hbo | ⟨i, hi, hib⟩
    · exact c.back b o hbo hb hn
    · have := (hblk i b hi hib).2
      omega
  · rcases hbo with hbo | ⟨i, hi, hib⟩
    · exact wf1 b o hbo
    · exact (hblk i b hi hib).1
/-- One row lent as an argument of three. -/
theorem flatRow_map {α : Type} (f : α → D) (s : Nat) (l : List α) (h : ∀ a c, c ∈ (f a).cells → ∃ x, c = .v x) : flatRow (.row s (l.map f)) := by
  refine ⟨s, _, rfl, fun c hc => ?_⟩
  unfold D.flat at hc
  obtain ⟨e, he, hce⟩ := List.mem_flatMap.1 hc
  obtain ⟨a, _, rfl⟩ := List.mem_map.1 he
  exact h a c hce
theorem flat_ints (l : List Int) : flatRow (.row 1 (l.map I)) := flatRow_map I 1 l (fun a c hc => ⟨_, List.mem_singleton.1 hc⟩)
theorem flats_1 {d : D} (h : flatRow d) : ∀ e, e ∈ [d] → flatRow e := fun e he => by obtain rfl := List.mem_singleton.1 he; exact h
theorem flats_0 : ∀ e, e ∈ ([] : List D) → flatRow e := fun e he => by cases he
theorem Lent.one {H : List D} {a b : D} (h : Lent H a b) : ∀ (i : Nat) (c d : D), [a][i]? = some c → [b][i]? = some d → Lent H c d := by
  intro i c d hc hd
  rcases i with _ | i
  · obtain rfl : a = c := by simpa using hc
    obtain rfl : b = d := by simpa using hd
    exact h
  · simp at hc
theorem Lent.cons {H as1 bs : List D} {a b : D} (h : Lent H a b) (ht : ∀ (i : Nat) (c d : D), as1[i]? = some c → bs[i]? = some d → Lent H c d) : ∀ (i : Nat) (c d : D), (a :: as1)[i]? = some c → (b :: bs)[i]? = some d → Lent H c d := by
  intro i c d hc hd
  rcases i with _ | i
  · obtain rfl : a = c := by simpa using hc
    obtain rfl : b = d := by simpa using hd
    exact h
  · exact ht i c d (by simpa using hc) (by simpa using hd)
theorem Lent.nil {H : List D} : ∀ (i : Nat) (c d : D), ([] : List D)[i]? = some c → ([] : List D)[i]? = some d → Lent H c d := fun i c d hc => by simp at hc
theorem nb_lit : nb = 1000000 := rfl
theorem Lent.row {H : List D} {s n : Nat} {es : List D} (i : Nat) (h : H[i]? = some (.row s es)) (hn : es.length = n) (g : Nat) (hg : g = nb + i) : Lent H (.own g s n) (.sl s es) := by
  subst hn
  subst hg
  exact .own i s es h
end Go.Proofs.Ytedmegmhjmabcaa
