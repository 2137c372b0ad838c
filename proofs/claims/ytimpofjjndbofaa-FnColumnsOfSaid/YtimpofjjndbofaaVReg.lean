/-
  The slots and the named blocks of a call under way; how each kind of step changes them. No condition.
-/
import Derived.Test.YtimpofjjndbofaaVCore
namespace Go.Proofs.Ytimpofjjndbofaa
open Go.RowKit

/-- The call that is under way: how many slots; the world in which it began, what stood still then, the blocks that it was handed; how many names it was handed, and where they lie. -/
structure Ctx where
  n : Nat
  w0 : World
  F0 : Cells
  R0 : Blocks
  k : Nat
  m0 : Names

/-- What each slot and each name holds. -/
abbrev Env := Nat → D
abbrev Upd := List (Nat × D)
namespace Env
def set (σ : Env) (t : Nat) (d : D) : Env := fun u => if u = t then d else σ u
theorem set_same (σ : Env) (t : Nat) (d : D) : σ.set t d t = d := by simp [set]
theorem set_ne (σ : Env) (t u : Nat) (d : D) (h : ¬ u = t) : σ.set t d u = σ u := by simp [set, h]
/-- Several slots, one after the other. -/
def put : Upd → Env → Env
  | [], σ => σ
  | p :: l, σ => put l (σ.set p.1 p.2)
theorem put_out (l : Upd) : ∀ (σ : Env) (t : Nat), (∀ p, p ∈ l → p.1 ≠ t) → put l σ t = σ t := by
  induction l with
  | nil => intro σ t _; rfl
  | cons p l ih =>
    intro σ t h
    rw [put, ih _ _ (fun q hq => h q (List.mem_cons_of_mem _ hq)), set_ne _ _ _ _ (fun e => h p (List.mem_cons_self ..) e.symm)]
theorem put_same (l : Upd) : ∀ (σ τ : Env) (t : Nat), σ t = τ t → put l σ t = put l τ t := by
  induction l with
  | nil => intro σ τ t h; exact h
  | cons p l ih =>
    intro σ τ t h
    refine ih _ _ _ ?_
    by_cases e : t = p.1
    · subst e; rw [set_same, set_same]
    · rw [set_ne _ _ _ _ e, set_ne _ _ _ _ e, h]
theorem put_in (l : Upd) : ∀ (σ τ : Env) (t : Nat), (∃ p, p ∈ l ∧ p.1 = t) → put l σ t = put l τ t := by
  induction l with
  | nil => intro σ τ t h; obtain ⟨p, hp, _⟩ := h; cases hp
  | cons p l ih =>
    intro σ τ t h
    by_cases e : t = p.1
    · subst e; exact put_same l _ _ _ (by rw [set_same, set_same])
    · obtain ⟨q, hq, he⟩ := h
      refine ih _ _ _ ⟨q, ?_, he⟩
      cases hq with
      | head => exact absurd he.symm e
      | tail _ hq => exact hq
theorem put_append (l m : Upd) : ∀ τ : Env, put (l ++ m) τ = put m (put l τ) := by
  induction l with
  | nil => intro τ; rfl
  | cons p l ih => intro τ; rw [List.cons_append, put, ih, put]
end Env

structure RelF (G : Ctx) (σ : Env) (tm : Array Value) (w : World) (F : Cells) (m : Names) : Prop where
  size : tm.size = G.n
  nle : G.n ≤ nb
  slots : ∀ t, t < nb → Fz w F m (σ t) (tm.getD t undef)
  blks : ∀ g, nb ≤ g → Blk w F m g (σ g)
  inj : ∀ g g' b, nb ≤ g → nb ≤ g' → (σ g).isBlk = true → (σ g').isBlk = true → m g = some (some b) → m g' = some (some b) → g = g'
  wf : ∀ b o, F b o → b < w.heap.size
  chg : Chg G.w0 G.F0 G.R0 w F
  own : ∀ g b, nb ≤ g → (σ g).isBlk = true → m g = some (some b) → G.R0 b ∨ G.w0.heap.size ≤ b
  par : ∀ i, i < G.k → σ (nb + i) ≠ .free ∧ m (nb + i) = G.m0 (nb + i)

def Rel (G : Ctx) (σ : Env) (a : Act) (w : World) : Prop := a.defers = [] ∧ ∃ F m, RelF G σ a.tmps w F m

theorem Rel.ext {G : Ctx} {σ τ : Env} {a : Act} {w : World} (h : Rel G σ a w) (e : ∀ t, σ t = τ t) : Rel G τ a w := by
  obtain rfl : σ = τ := funext e
  exact h

theorem Rel.drew {G : Ctx} {σ : Env} {a : Act} {w : World} (h : Rel G σ a w) : Rel G σ a w.drew := by
  obtain ⟨hd, F, m, h⟩ := h
  have c : Chg w F noBlocks w.drew F := (Chg.refl w F noBlocks).drew
  exact ⟨hd, F, m, h.size, h.nle, fun t ht => (h.slots t ht).still c, fun g hg => (h.blks g hg).stable c (fun _ _ h => h) (fun e => by have := h.blks g hg; rw [e] at this; exact this) (fun _ _ _ => id), h.inj, h.wf, h.chg.drew, h.own, h.par⟩

section
variable {G : Ctx} {σ : Env} {tm : Array Value} {w : World} {F : Cells} {m : Names}

theorem getD_set (tm : Array Value) (s t : Nat) (x : Value) (hs : s < tm.size) : (tm.setIfInBounds s x).getD t undef = if t = s then x else tm.getD t undef := by
  by_cases e : t = s
  · subst e; rw [if_pos rfl]; simp [hs]
  · rw [if_neg e]; simp [Array.getElem?_setIfInBounds_ne (fun h => e h.symm : s ≠ t)]

/-- A slot is written. -/
theorem RelF.slot (h : RelF G σ tm w F m) {d : Nat} {δ : D} {x : Value} (hd : d < G.n) (hx : Fz w F m δ x) : RelF G (σ.set d δ) (tm.setIfInBounds d x) w F m where
  size := by simpa using h.size
  nle := h.nle
  slots t ht := by
    rw [getD_set _ _ _ _ (by rw [h.size]; exact hd)]
    by_cases e : t = d
    · subst e; rw [if_pos rfl, Env.set_same]; exact hx
    · rw [if_neg e, Env.set_ne _ _ _ _ e]; exact h.slots t ht
  blks g hg := by
    rw [Env.set_ne _ _ _ _ (by have := h.nle; omega)]
    exact h.blks g hg
  inj g g' b hg hg' h1 h2 := by
    rw [Env.set_ne _ _ _ _ (by have := h.nle; omega)] at h1 h2
    exact h.inj g g' b hg hg' h1 h2
  wf := h.wf
  chg := h.chg
  own g b hg h1 := by
    rw [Env.set_ne _ _ _ _ (by have := h.nle; omega)] at h1
    exact h.own g b hg h1
  par i hi := by rw [Env.set_ne _ _ _ _ (by have := h.nle; omega)]; exact h.par i hi

/-- A slot's datum is put otherwise. -/
theorem RelF.recast (h : RelF G σ tm w F m) {d : Nat} {δ : D} (hd : d < nb) (hx : Fz w F m δ (tm.getD d undef)) : RelF G (σ.set d δ) tm w F m where
  size := h.size
  nle := h.nle
  slots t ht := by
    by_cases e : t = d
    · subst e; rw [Env.set_same]; exact hx
    · rw [Env.set_ne _ _ _ _ e]; exact h.slots t ht
  blks g hg := by rw [Env.set_ne _ _ _ _ (by omega)]; exact h.blks g hg
  inj g g' b hg hg' h1 h2 := by
    rw [Env.set_ne _ _ _ _ (by omega)] at h1 h2
    exact h.inj g g' b hg hg' h1 h2
  wf := h.wf
  chg := h.chg
  own g b hg h1 := by rw [Env.set_ne _ _ _ _ (by omega)] at h1; exact h.own g b hg h1
  par i hi := by rw [Env.set_ne _ _ _ _ (by omega)]; exact h.par i hi

/-- A named block turns; memory turns there alone. -/
theorem RelF.turn (h : RelF G σ tm w F m) {g : Nat} {δ : D} (hg : nb ≤ g) (hb : (σ g).isBlk = true) {w' : World} {F' : Cells} (c : Chg w F (fun b => m g = some (some b)) w' F') (wf : ∀ b o, F' b o → b < w'.heap.size)
    (hx : Blk w' F' m g δ) (hδ : δ ≠ .free) : RelF G (σ.set g δ) tm w' F' m where
  size := h.size
  nle := h.nle
  slots t ht := by rw [Env.set_ne _ _ _ _ (by omega)]; exact (h.slots t ht).still c
  blks g' hg' := by
    by_cases e : g' = g
    · subst e; rw [Env.set_same]; exact hx
    · rw [Env.set_ne _ _ _ _ e]
      exact (h.blks g' hg').stable c (fun _ _ h => h) (fun e => by have := h.blks g' hg'; rw [e] at this; exact this) (fun b h1 h2 h3 => e (h.inj g' g b hg' hg h1 hb h2 h3))
  inj g1 g2 b h1 h2 h3 h4 h5 h6 := by
    have old : ∀ g', (σ.set g δ g').isBlk = true → (σ g').isBlk = true := by
      intro g' h
      by_cases e : g' = g
      · subst e; exact hb
      · rwa [Env.set_ne _ _ _ _ e] at h
    exact h.inj g1 g2 b h1 h2 (old _ h3) (old _ h4) h5 h6
  wf := wf
  chg := h.chg.trans c (fun b hm hlt => (h.own g b hg hb hm).resolve_right (by omega))
  own g' b hg' h1 h2 := by
    by_cases e : g' = g
    · subst e; exact h.own g' b hg hb h2
    · rw [Env.set_ne _ _ _ _ e] at h1; exact h.own g' b hg' h1 h2
  par i hi := by
    refine ⟨?_, (h.par i hi).2⟩
    by_cases e : nb + i = g
    · rw [e, Env.set_same]; exact hδ
    · rw [Env.set_ne _ _ _ _ e]; exact (h.par i hi).1

/-- A name is given to a block that nobody else names. -/
theorem RelF.name (h : RelF G σ tm w F m) {g : Nat} {δ : D} (hg : nb ≤ g) (hf : σ g = .free) {w' : World} {F' : Cells} (c : Chg w F noBlocks w' F') (wf : ∀ b o, F' b o → b < w'.heap.size) (p : Option Nat)
    (hx : Blk w' F' (fun g' => if g' = g then some p else m g') g δ) (hp : ∀ b, p = some b → ∀ g', nb ≤ g' → (σ g').isBlk = true → m g' ≠ some (some b)) (hown : ∀ b, p = some b → G.R0 b ∨ G.w0.heap.size ≤ b) :
    RelF G (σ.set g δ) tm w' F' (fun g' => if g' = g then some p else m g') := by
  have hmg : m g = none := by have := h.blks g hg; rw [hf] at this; exact this
  have hm : ∀ g' q, m g' = some q → (fun g' => if g' = g then some p else m g') g' = some q := by
    intro g' q h1
    dsimp only
    rw [if_neg (fun e => by rw [e, hmg] at h1; cases h1)]
    exact h1
  refine ⟨h.size, h.nle, fun t ht => ?_, fun g' hg' => ?_, fun g1 g2 b h1 h2 h3 h4 h5 h6 => ?_, wf, h.chg.trans c (fun _ hk => hk.elim), fun g' b hg' h1 h2 => ?_, fun i hi => ?_⟩
  · rw [Env.set_ne _ _ _ _ (by omega)]; exact (h.slots t ht).stable c hm
  · by_cases e : g' = g
    · subst e; rw [Env.set_same]; exact hx
    · rw [Env.set_ne _ _ _ _ e]
      exact (h.blks g' hg').stable c hm (fun e' => by
        have := h.blks g' hg'
        rw [e'] at this
        rw [if_neg e]
        exact this) (fun _ _ _ => id)
  · by_cases e1 : g1 = g
    · by_cases e2 : g2 = g
      · rw [e1, e2]
      · rw [if_pos e1] at h5
        rw [if_neg e2] at h6
        rw [Env.set_ne _ _ _ _ e2] at h4
        exact absurd h6 (hp b (by simpa using h5) g2 h2 h4)
    · rw [if_neg e1] at h5
      rw [Env.set_ne _ _ _ _ e1] at h3
      by_cases e2 : g2 = g
      · rw [if_pos e2] at h6
        exact absurd h5 (hp b (by simpa using h6) g1 h1 h3)
      · rw [if_neg e2] at h6
        rw [Env.set_ne _ _ _ _ e2] at h4
        exact h.inj g1 g2 b h1 h2 h3 h4 h5 h6
  · by_cases e : g' = g
    · rw [if_pos e] at h2; exact hown b (by simpa using h2)
    · rw [if_neg e] at h2
      rw [Env.set_ne _ _ _ _ e] at h1
      exact h.own g' b hg' h1 h2
  · have h1 := h.par i hi
    have e : nb + i ≠ g := fun e => h1.1 (by rw [e]; exact hf)
    refine ⟨by rw [Env.set_ne _ _ _ _ e]; exact h1.1, ?_⟩
    rw [if_neg e]
    exact h1.2

end
end Go.Proofs.Ytimpofjjndbofaa
