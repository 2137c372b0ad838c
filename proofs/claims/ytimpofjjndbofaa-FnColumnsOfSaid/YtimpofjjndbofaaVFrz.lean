/-
  Rows of one's own that stand still from now on; names told anew. How both keep what is known of a call under way. No condition.
-/
import Derived.Test.YtimpofjjndbofaaVComp
namespace Go.Proofs.Ytimpofjjndbofaa
open Go.RowKit

/-- A mark: what is still to be worked out. -/
def hold {α : Sort _} (x : α) : α := x
theorem hold_eq {α : Sort _} (x : α) : hold x = x := rfl

mutual
/-- The first cells of a row, where they stand still. -/
def D.frz (g s : Nat) (es : List D) : D → D
  | .any => .any
  | .v x => .v x
  | .sl a b => .sl a b
  | .nul => .nul
  | .agg cs => .agg (D.frzL g s es cs)
  | .tup cs => .tup (D.frzL g s es cs)
  | .ifc t d => .ifc t (D.frz g s es d)
  | .fn f cs => .fn f (D.frzL g s es cs)
  | .ptr cs => .ptr cs
  | .ref a b => .ref a b
  | .own h t n => if h = g ∧ t = s ∧ n ≤ es.length then .sl s (es.take n) else .own h t n
  | .eref a b c d => .eref a b c d
  | .obj cs => .obj (D.frzL g s es cs)
  | .row a b => .row a b
  | .free => .free
def D.frzL (g s : Nat) (es : List D) : List D → List D
  | [] => []
  | d :: l => D.frz g s es d :: D.frzL g s es l
end
theorem D.frzL_map (g s : Nat) (es : List D) : ∀ l : List D, D.frzL g s es l = l.map (D.frz g s es)
  | [] => rfl
  | d :: l => by rw [D.frzL, D.frzL_map g s es l]; rfl

theorem Fz.frz {w w' : World} {F F' : Cells} {T : Blocks} {m : Names} {g s : Nat} {es : List D} (c : Chg w F T w' F') (hrow : ∀ (m' : Names) (n : Nat) (x : Value), m' g = m g → Fz w F m' (.own g s n) x → n ≤ es.length → Fz w' F' m' (.sl s (es.take n)) x)
    {m' : Names} {d : D} {x : Value} (h : Fz w F m' d x) : m' g = m g → Fz w' F' m' (d.frz g s es) x := by
  have cs_at : ∀ {cs : List D} {i : Nat} {d : D}, (D.frzL g s es cs)[i]? = some d → ∃ e, cs[i]? = some e ∧ d = e.frz g s es := by
    intro cs i d hd
    rw [D.frzL_map, List.getElem?_map] at hd
    cases hc : cs[i]? with
    | none => rw [hc] at hd; cases hd
    | some e => rw [hc] at hd; exact ⟨e, rfl, by simpa using hd.symm⟩
  induction h with
  | any m x => intro _; exact .any m x
  | v m x => intro _; exact .v m x
  | sl0 m s a cap => intro _; exact .sl0 m s a cap
  | sl m s es b off cap u hs hle hlen hu hr ih => intro _; exact (Fz.sl m s es b off cap u hs hle hlen hu hr).still c
  | nul m a => intro _; exact .nul m a
  | agg m cs us hl h1 hr ih =>
    intro hm
    rw [D.frz]
    exact .agg m _ us (by rw [D.frzL_map, List.length_map]; exact hl) h1 (fun i d u hd hu => by obtain ⟨e, he, rfl⟩ := cs_at hd; exact ih i e u he hu hm)
  | tup m cs us hl hr ih =>
    intro hm
    rw [D.frz]
    exact .tup m _ us (by rw [D.frzL_map, List.length_map]; exact hl) (fun i d u hd hu => by obtain ⟨e, he, rfl⟩ := cs_at hd; exact ih i e u he hu hm)
  | ifc m t d x h ih => intro hm; rw [D.frz]; exact .ifc m t _ x (ih hm)
  | fn m f cs us hl hr ih =>
    intro hm
    rw [D.frz]
    exact .fn m f _ us (by rw [D.frzL_map, List.length_map]; exact hl) (fun i d u hd hu => by obtain ⟨e, he, rfl⟩ := cs_at hd; exact ih i e u he hu hm)
  | ptr m cs b off u hu hr ih => intro _; exact (Fz.ptr m cs b off u hu hr).still c
  | ref m g o b hg => intro _; exact .ref m g o b hg
  | own m h t n b cap cur U hg hs hle hb hcap =>
    intro hm
    rw [D.frz]
    split
    · rename_i e
      obtain ⟨rfl, rfl, hn⟩ := e
      exact hrow m n _ hm (.own m h t n b cap cur U hg hs hle hb hcap) hn
    · exact (Fz.own m h t n b cap cur U hg hs hle hb hcap).still c
  | own0 m h t a hg =>
    intro hm
    rw [D.frz]
    split
    · rename_i e
      obtain ⟨rfl, rfl, hn⟩ := e
      exact hrow m 0 _ hm (.own0 m h t a hg) hn
    · exact .own0 m h t a hg
  | eref m g s i o b hg => intro _; exact .eref m g s i o b hg

section
variable {P : Program} {G : Ctx} {σ τ : Env} {a : Act} {w : World} {F : Cells} {m : Names} {tm : Array Value}

/-- A row of one's own stands still from now on. -/
theorem RelF.freeze (h : RelF G τ tm w F m) {g s : Nat} {es : List D} (hg : nb ≤ g) (hr : τ g = .row s es) (hp : D.purL es = true) :
    ∃ F', RelF G (τ.set g .any) tm w F' m ∧ ∀ (d : D) (x : Value), Fz w F m d x → Fz w F' m (d.frz g s es) x := by
  have hb := h.blks g hg
  rw [hr] at hb
  have hbl : (τ g).isBlk = true := by rw [hr]; rfl
  rcases hb with ⟨rfl, hmg⟩ | ⟨b, cur, T, hmg, hcur, hs, hlen, hsz, hc, hF⟩
  · refine ⟨F, h.turn hg hbl (Chg.refl w F _) h.wf trivial (fun e => by cases e), fun d x hx => hx.frz (Chg.refl w F noBlocks) (fun m' n x hm' hx hn => ?_) rfl⟩
    obtain rfl : n = 0 := by simpa using hn
    cases hx with
    | own _ _ _ _ b cap cur U hg' => rw [hm', hmg] at hg'; cases hg'
    | own0 _ _ _ a' hg' => exact .sl0 m' s a' 0
  · have c : Chg w F (fun k => m g = some (some k)) w (F.with b (es.length * s)) := by
      refine ⟨rfl, rfl, rfl, Nat.le_refl _, fun _ _ _ => rfl, fun b cur U z hb => ⟨cur, hb, rfl⟩, fun b o hf => ⟨.inl hf, rfl⟩, fun k o hf hk hn => ?_⟩
      rcases hf with hf | ⟨rfl, _⟩
      · exact hf
      · exact absurd hmg hn
    have hblt : b < w.heap.size := (Array.getElem?_eq_some_iff.1 hcur).1
    refine ⟨F.with b (es.length * s), h.turn hg hbl c (fun k o hf => ?_) trivial (fun e => by cases e), fun d x hx => hx.frz c (fun m' n x hm' hx hn => ?_) rfl⟩
    · rcases hf with hf | ⟨rfl, _⟩
      · exact h.wf k o hf
      · exact hblt
    · have main : ∀ cap, n ≤ cap → Fz w (F.with b (es.length * s)) m' (.sl s (es.take n)) (.slice (some ⟨b, 0, none⟩) n cap) := by
        intro cap hle
        have hpl : CellsOK w F noNames (D.flat es) (cur.toList.take (es.length * s)) := hc.pure (m' := noNames) (D.purL_iff.2 (fun d hd => by
          obtain ⟨e', he', hd⟩ := List.mem_flatMap.1 hd
          have h1 := D.purL_iff.1 hp e' he'
          cases e' with
          | agg cs => exact D.purL_iff.1 h1 d hd
          | _ => obtain rfl := List.mem_singleton.1 hd; exact h1))
        obtain ⟨h1, h2, h3⟩ := part_cells hs hlen hpl 0 n (Nat.zero_le _) hn
        rw [List.drop_zero, Nat.zero_mul, List.drop_zero, Nat.sub_zero] at h3
        rw [List.drop_zero] at h1
        have hlt : (es.take n).length = n := by rw [List.length_take]; omega
        have hle2 : n * s ≤ es.length * s := Nat.mul_le_mul_right _ hn
        have := Fz.ofCells (w := w) (F := F.with b (es.length * s)) (m := m') (b := b) (off := 0) (cap := cap) hs (by rw [hlt]; exact hle) h1 (h3.stable c (fun _ _ h => h)) (fun j v hj => by
          rw [List.getElem?_take] at hj
          split at hj
          · rename_i hjn
            rw [List.getElem?_take, if_pos (by omega)] at hj
            refine ⟨?_, .inr ⟨rfl, by omega⟩⟩
            rw [Nat.zero_add, cell_of_row w b j cur T (0, 0) hcur, ← Array.getElem?_toList]
            exact hj
          · cases hj)
        rw [hlt] at this
        exact this
      cases hx with
      | own _ _ _ _ b' cap cur' U hg' hs' hle' hb' hcap' =>
        rw [hm', hmg] at hg'
        obtain rfl : b = b' := by simpa using hg'
        exact main cap hle'
      | own0 _ _ _ a' hg' => rw [hm', hmg] at hg'; cases hg'

/-- What is known may be put otherwise. -/
def Wk (k : Nat) (σ τ : Env) : Prop := ∀ (G : Ctx) (a : Act) (w : World), G.k = k → Rel G σ a w → Rel G τ a w
theorem Wk.refl (k : Nat) (σ : Env) : Wk k σ σ := fun _ _ _ _ h => h
theorem Wk.trans {k : Nat} {σ τ ρ : Env} (h : Wk k σ τ) (h1 : Wk k τ ρ) : Wk k σ ρ := fun G a w hk hR => h1 G a w hk (h G a w hk hR)

/-- A slot's row stands still from now on. -/
def frzU (σ : Env) (t g s : Nat) (es : List D) : Upd := [(g, .any), (t, (σ t).frz g s es)]
theorem Rel.frz {t g s : Nat} {es : List D} (hR : Rel G τ a w) (ht : t < nb) (hg : nb ≤ g) (hr : τ g = .row s es) (hp : D.purL es = true) : Rel G (Env.put (frzU τ t g s es) τ) a w := by
  obtain ⟨hd, F, m, h⟩ := hR
  obtain ⟨F', h1, h2⟩ := h.freeze hg hr hp
  exact ⟨hd, F', m, h1.recast ht (h2 _ _ (h.slots t ht))⟩
/-- The same for what lies in a cell of one's own. -/
def frzO (σ : Env) (q g s : Nat) (es : List D) : Upd := [(g, .any), (q, (σ q).frz g s es)]
theorem Rel.frzObj {q g s : Nat} {es cs : List D} (hR : Rel G τ a w) (hq : nb ≤ q) (hqg : q ≠ g) (hcs : τ q = .obj cs) (hg : nb ≤ g) (hr : τ g = .row s es) (hp : D.purL es = true) : Rel G (Env.put (frzO τ q g s es) τ) a w := by
  obtain ⟨hd, F, m, h⟩ := hR
  obtain ⟨F', h1, h2⟩ := h.freeze hg hr hp
  have e : (τ.set g .any) q = τ q := Env.set_ne _ _ _ _ hqg
  have hbl : ((τ.set g .any) q).isBlk = true := by rw [e, hcs]; rfl
  refine ⟨hd, F', m, h1.turn hq hbl (Chg.refl w F' _) h1.wf ?_ (fun e => by rw [hcs, D.frz] at e; cases e)⟩
  have h0 := h.blks q hq
  have h3 := h1.blks q hq
  rw [e, hcs] at h3
  rw [hcs] at h0 ⊢
  obtain ⟨b, cur, T, hm, hb, hc, hF⟩ := h3
  obtain ⟨b0, cur0, T0, hm0, hb0, hc0, _⟩ := h0
  obtain rfl : b0 = b := by rw [hm] at hm0; simpa using hm0.symm
  obtain rfl : cur0 = cur := by rw [hb] at hb0; injection hb0 with h; injection h with h _ _; exact h.symm
  rw [D.frz]
  refine ⟨b0, cur0, T, hm, hb, ⟨by rw [D.frzL_map, List.length_map]; exact hc0.len, hc0.one, fun j d u hd hu => ?_⟩, hF⟩
  rw [D.frzL_map, List.getElem?_map] at hd
  cases hj : cs[j]? with
  | none => rw [hj] at hd; cases hd
  | some e' =>
    rw [hj] at hd
    obtain rfl : e'.frz g s es = d := by simpa using hd
    exact h2 _ _ (hc0.fz j e' u hj hu)

def nodupB : List Nat → Bool
  | [] => true
  | x :: l => !l.contains x && nodupB l
theorem nodupB_spec : ∀ {l : List Nat}, nodupB l = true → l.Nodup
  | [], _ => List.nodup_nil
  | x :: l, h => by
    rw [nodupB, Bool.and_eq_true, Bool.not_eq_true'] at h
    exact List.nodup_cons.2 ⟨(fun hm => by rw [List.contains_iff_mem.2 hm] at h; exact absurd h.1 (by decide)), nodupB_spec h.2⟩
/-- A list of names, the first k of which are those that were handed over. -/
def canB (k : Nat) (L : List Nat) : Bool := nodupB L && L.all (fun g => decide (nb ≤ g)) && (List.range k).all fun i => L[i]? == some (nb + i)
structure Can (k : Nat) (L : List Nat) : Prop where
  nd : L.Nodup
  ge : ∀ g, g ∈ L → nb ≤ g
  fix : ∀ i, i < k → L[i]? = some (nb + i)
theorem can_of {k : Nat} {L : List Nat} (h : canB k L = true) : Can k L := by
  simp only [canB, Bool.and_eq_true, List.all_eq_true, decide_eq_true_eq, beq_iff_eq, List.mem_range] at h
  exact ⟨nodupB_spec h.1.1, h.1.2, h.2⟩

/-- What a name may hold. -/
def D.nmd : D → Bool
  | .obj _ => true
  | .row _ _ => true
  | .any => true
  | .free => true
  | _ => false
/-- Names told anew by a list. -/
theorem Wk.names {k : Nat} {L : List Nat} (hL : Can k L) (hslot : ∀ t, t < nb → τ t = .any ∨ σ t = (τ t).ren L) (hname : ∀ i g, L[i]? = some g → τ (nb + i) = .any ∨ ((τ (nb + i)).nmd = true ∧ σ g = (τ (nb + i)).ren L)) (hout : ∀ g, nb + L.length ≤ g → τ g = .free) : Wk k σ τ := by
  rintro G a w rfl ⟨hd, F, m, h⟩
  refine ⟨hd, F, fun g => (nameOf L g).bind m, ?_⟩
  have hm : ∀ g g', nameOf L g = some g' → (fun g => (nameOf L g).bind m) g = m g' := fun g g' hg => by simp [hg]
  have hat : ∀ i g, L[i]? = some g → (nameOf L (nb + i)).bind m = m g := fun i g hg => by rw [nameOf_at, hg]; rfl
  have split : ∀ g, nb ≤ g → (∃ (i : Nat) (g' : Nat), g = nb + i ∧ L[i]? = some g') ∨ nb + L.length ≤ g := by
    intro g hg
    by_cases hl : g - nb < L.length
    · exact .inl ⟨g - nb, _, by omega, List.getElem?_eq_getElem hl⟩
    · exact .inr (by omega)
  have blk : ∀ i g, L[i]? = some g → (τ (nb + i)).isBlk = true → (σ g).isBlk = true := by
    intro i g hi hb
    rcases hname i g hi with e | ⟨_, e⟩
    · rw [e] at hb; cases hb
    · rw [e, isBlk_ren]; exact hb
  refine ⟨h.size, h.nle, fun t ht => ?_, fun g hg => ?_, fun g1 g2 b hg1 hg2 hb1 hb2 hm1 hm2 => ?_, h.wf, h.chg, fun g b hg hb hmg => ?_, fun i hi => ?_⟩
  · rcases hslot t ht with e | e
    · rw [e]; exact .any _ _
    · exact (h.slots t ht).unren hm e.symm
  · rcases split g hg with ⟨i, g', rfl, hi⟩ | ho
    · rcases hname i g' hi with e | ⟨hk, e⟩
      · rw [e]; trivial
      · have hb := h.blks g' (hL.ge g' (List.mem_of_getElem? hi))
        rw [e] at hb
        cases hv : τ (nb + i) with
        | any => trivial
        | free =>
          rw [hv, D.ren] at hb
          show (nameOf L (nb + i)).bind m = none
          rw [hat i g' hi]
          exact hb
        | obj cs => rw [hv] at hb; exact hb.unren rfl hm (hat i g' hi)
        | row s es => rw [hv] at hb; exact hb.unren rfl hm (hat i g' hi)
        | _ => rw [hv] at hk; cases hk
    · rw [hout g ho]
      show (nameOf L g).bind m = none
      unfold nameOf
      rw [if_neg (by omega), List.getElem?_eq_none (by omega)]
      rfl
  · rcases split g1 hg1 with ⟨i, g1', rfl, hi⟩ | ho
    · rcases split g2 hg2 with ⟨j, g2', rfl, hj⟩ | ho
      · rw [hat i g1' hi] at hm1
        rw [hat j g2' hj] at hm2
        have e := h.inj g1' g2' b (hL.ge _ (List.mem_of_getElem? hi)) (hL.ge _ (List.mem_of_getElem? hj)) (blk i g1' hi hb1) (blk j g2' hj hb2) hm1 hm2
        subst e
        rw [(List.getElem?_inj (List.getElem?_eq_some_iff.1 hi).1 hL.nd).1 (hi.trans hj.symm)]
      · rw [hout g2 ho] at hb2; cases hb2
    · rw [hout g1 ho] at hb1; cases hb1
  · rcases split g hg with ⟨i, g', rfl, hi⟩ | ho
    · rw [hat i g' hi] at hmg
      exact h.own g' b (hL.ge _ (List.mem_of_getElem? hi)) (blk i g' hi hb) hmg
    · rw [hout g ho] at hb; cases hb
  · obtain ⟨h1, h2⟩ := h.par i hi
    have hi' := hL.fix i hi
    refine ⟨fun e => ?_, by rw [← h2]; exact hat i _ hi'⟩
    rcases hname i _ hi' with e' | ⟨_, e'⟩
    · rw [e] at e'; cases e'
    · rw [e, D.ren] at e'; exact h1 e'

/-- Slots and names of a list; of the other slots nothing, and c names in all. -/
def base (c : Nat) : Env := fun t => if t < nb then .any else if t < nb + c then .any else .free
def ofL (c : Nat) : List (Nat × D) → Env
  | [] => base c
  | p :: l => (ofL c l).set p.1 p.2
def agr1 (σ : Env) (L : List Nat) (p : Nat × D) : Prop :=
  if p.1 < nb then σ p.1 = p.2.ren L else match L[p.1 - nb]? with
    | some g => p.2.nmd = true ∧ σ g = p.2.ren L
    | none => False
def agr (σ : Env) (L : List Nat) : List (Nat × D) → Prop
  | [] => True
  | p :: l => agr1 σ L p ∧ agr σ L l
theorem Wk.list {k c : Nat} (L : List Nat) {l : List (Nat × D)} (hc : L.length = c) (hL : canB k L = true) (hh : hold (agr σ L l)) : Wk k σ (ofL c l) := by
  have h : agr σ L l := hh
  clear hh
  have key : (∀ t, t < nb → ofL c l t = .any ∨ σ t = (ofL c l t).ren L) ∧ (∀ i g, L[i]? = some g → ofL c l (nb + i) = .any ∨ ((ofL c l (nb + i)).nmd = true ∧ σ g = (ofL c l (nb + i)).ren L)) ∧ ∀ g, nb + L.length ≤ g → ofL c l g = .free := by
    subst hc
    induction l with
    | nil =>
      refine ⟨fun t ht => .inl ?_, fun i g hi => .inl ?_, fun g hg => ?_⟩
      · show base _ t = _; unfold base; rw [if_pos ht]
      · have := (List.getElem?_eq_some_iff.1 hi).1
        show base _ _ = _; unfold base; rw [if_neg (by omega), if_pos (by omega)]
      · show base _ _ = _; unfold base; rw [if_neg (by omega), if_neg (by omega)]
    | cons p l ih =>
      obtain ⟨h1, h2, h3⟩ := ih h.2
      have hp := h.1
      unfold agr1 at hp
      have hlt : p.1 < nb + L.length := by
        split at hp
        · omega
        · split at hp
          · rename_i g hg; have := (List.getElem?_eq_some_iff.1 hg).1; omega
          · exact hp.elim
      refine ⟨fun t ht => ?_, fun i g hi => ?_, fun g hg => ?_⟩
      · by_cases e : t = p.1
        · subst e; rw [if_pos ht] at hp; rw [ofL, Env.set_same]; exact .inr hp
        · rw [ofL, Env.set_ne _ _ _ _ e]; exact h1 t ht
      · by_cases e : nb + i = p.1
        · rw [← e, if_neg (by omega), show nb + i - nb = i by omega, hi] at hp
          rw [ofL, e, Env.set_same]; exact .inr hp
        · rw [ofL, Env.set_ne _ _ _ _ e]; exact h2 i g hi
      · rw [ofL, Env.set_ne _ _ _ _ (by omega)]; exact h3 g hg
  exact Wk.names (can_of hL) key.1 key.2.1 key.2.2

end
end Go.Proofs.Ytimpofjjndbofaa
