/-
  A row of one's own under another name. Constants taken out of an expression, plainly. No condition.
-/
import Derived.Test.YtpmmagnphfcdnaaVEsz
set_option maxHeartbeats 4000000
set_option maxRecDepth 100000
set_option linter.unusedVariables false
set_option linter.unusedSimpArgs false
namespace Go.Proofs.Ytpmmagnphfcdnaa
open Go.RowKit

section
variable {P : Program} {G : Ctx} {σ : Env} {k : Nat} {w : World} {F : Cells} {m : Names} {tm : Array Value}

theorem alias_core (h : RelF G σ tm w F m) {q g s : Nat} {es : List D} (hq : nb ≤ q) (hg : nb ≤ g) (hqg : q ≠ g) (hr : σ q = .row s es) (hf : σ g = .free) : ∃ m' : Names, RelF G ((σ.set q .any).set g (.row s es)) tm w F m' ∧ m' g = m' q := by
  have hbq : (σ q).isBlk = true := by rw [hr]; rfl
  have hb := h.blks q hq
  rw [hr] at hb
  obtain ⟨p, hp⟩ : ∃ p, m q = some p := by
    rcases hb with ⟨_, h1⟩ | ⟨b, _, _, h1, _⟩
    · exact ⟨_, h1⟩
    · exact ⟨_, h1⟩
  have h1 := h.turn (δ := .any) hq hbq (Chg.refl w F _) h.wf trivial (fun e => by cases e)
  have hf1 : (σ.set q .any) g = .free := by rw [Env.set_ne _ _ _ _ hqg.symm]; exact hf
  have hm : ∀ g' p', m g' = some p' → (fun g' => if g' = g then some p else m g') g' = some p' := by
    intro g' p' h1
    have hmg : m g = none := by have := h.blks g hg; rw [hf] at this; exact this
    dsimp only
    rw [if_neg (fun e => by rw [e, hmg] at h1; cases h1)]
    exact h1
  refine ⟨fun g' => if g' = g then some p else m g', h1.name hg hf1 (Chg.refl w F noBlocks) h.wf p ?_ (fun b hpb g' hg' hbl hmg' => ?_) (fun b hpb => h.own q b hq hbq (by rw [hp, hpb])) ?_, ?_⟩
  · rcases hb with ⟨e1, h2⟩ | ⟨b, cur, T, h2, hcur, hs, hl, hsz, hc, hF⟩
    · refine .inl ⟨e1, ?_⟩
      rw [hp] at h2
      show (if g = g then some p else m g) = some none
      rw [if_pos rfl]
      exact h2
    · refine .inr ⟨b, cur, T, ?_, hcur, hs, hl, hsz, hc.stable (Chg.refl w F noBlocks) hm, hF⟩
      rw [hp] at h2
      show (if g = g then some p else m g) = some (some b)
      rw [if_pos rfl]
      exact h2
  · by_cases e : g' = q
    · subst e; rw [Env.set_same] at hbl; cases hbl
    · rw [Env.set_ne _ _ _ _ e] at hbl
      exact e (h.inj g' q b hg' hq hbl hbq hmg' (by rw [hp, hpb]))
  · refine h.ext.step h.blks (Chg.refl w F noBlocks) h.wf (fun _ hb => hb.elim) (fun l L e k he => ?_) (fun g' b h3 h4 h5 => ?_)
    · rw [Env.set_ne _ _ _ _ (by show ¬ 999999 = g; have : 1000000 ≤ g := hg; omega), Env.set_ne _ _ _ _ (by show ¬ 999999 = q; have : 1000000 ≤ q := hq; omega)] at he
      exact he
    · by_cases e : g' = g
      · subst e
        rw [if_pos rfl] at h5
        exact .inl ⟨q, hq, hbq, by rw [hp]; exact h5⟩
      · rw [if_neg e] at h5
        rw [Env.set_ne _ _ _ _ e] at h4
        by_cases e2 : g' = q
        · subst e2; rw [Env.set_same] at h4; cases h4
        · rw [Env.set_ne _ _ _ _ e2] at h4
          exact .inl ⟨g', h3, h4, h5⟩
  · show (if g = g then some p else m g) = (if q = g then some p else m q)
    rw [if_pos rfl, if_neg hqg, hp]
theorem fz_alias {m' : Names} {q g s n : Nat} {x : Value} (e : m' g = m' q) (h : Fz w F m' (.own q s n) x) : Fz w F m' (.own g s n) x := by
  cases h with
  | own _ _ _ _ b cap cur T hg hs hle hb hcap => exact .own _ _ _ _ b cap cur T (e.trans hg) hs hle hb hcap
  | own0 _ _ _ a hg => exact .own0 _ _ _ a (e.trans hg)
/-- A row gets another name, by which a slot tells it. -/
theorem wk_aliasT (t q g : Nat) {s n : Nat} {es : List D} (ht : t < nb) (hq : nb ≤ q) (hg : nb ≤ g) (hqg : q ≠ g) (hr : σ q = .row s es) (hf : σ g = .free) (hs : σ t = .own q s n) : Wk k σ (((σ.set q .any).set g (.row s es)).set t (.own g s n)) := by
  rintro G a w - ⟨hd, F, m, h⟩
  obtain ⟨m', h1, e⟩ := alias_core h hq hg hqg hr hf
  refine ⟨hd, F, m', h1.recast ht (fun _ _ _ _ he => by cases he) (fz_alias e ?_)⟩
  have := h1.slots t ht
  rw [Env.set_ne _ _ _ _ (by omega), Env.set_ne _ _ _ _ (by omega), hs] at this
  exact this
/-- The same, told by a cell of one's own. -/
theorem wk_aliasO (p q g j : Nat) {s n : Nat} {es cs : List D} (hp : nb ≤ p) (hq : nb ≤ q) (hg : nb ≤ g) (hqg : q ≠ g) (hpq : p ≠ q) (hpg : p ≠ g) (hr : σ q = .row s es) (hf : σ g = .free) (hs : σ p = .obj cs) (hj : cs[j]? = some (.own q s n)) :
    Wk k σ (((σ.set q .any).set g (.row s es)).set p (.obj (cs.set j (.own g s n)))) := by
  rintro G a w - ⟨hd, F, m, h⟩
  obtain ⟨m', h1, e⟩ := alias_core h hq hg hqg hr hf
  have e1 : ((σ.set q .any).set g (.row s es)) p = .obj cs := by rw [Env.set_ne _ _ _ _ hpg, Env.set_ne _ _ _ _ hpq, hs]
  refine ⟨hd, F, m', h1.turn hp (by rw [e1]; rfl) (Chg.refl w F _) h.wf ?_ (fun e => by cases e)⟩
  have h3 := h1.blks p hp
  rw [e1] at h3
  obtain ⟨b, cur, T, hm, hb, hc, hF⟩ := h3
  refine ⟨b, cur, T, hm, hb, ⟨by rw [List.length_set]; exact hc.len, hc.one, fun i d u hd hu => ?_⟩, hF⟩
  rw [List.getElem?_set] at hd
  split at hd
  · rename_i hij
    subst hij
    split at hd
    · obtain rfl : D.own g s n = d := by simpa using hd
      exact fz_alias e (hc.fz j _ u hj hu)
    · cases hd
  · exact hc.fz i d u hd hu
end

mutual
/-- Constants replaced by columns from w on; their values behind those of a list. -/
def exE (w : Int) : E → List V → E × List V
  | .mk k c v ks, vs => if k = 2 then (.mk 1 (w + vs.length) ⟨false, 0⟩ [], vs ++ [v]) else (.mk k c v (exL w ks vs).1, (exL w ks vs).2)
def exL (w : Int) : List E → List V → List E × List V
  | [], vs => ([], vs)
  | e :: l, vs => ((exE w e vs).1 :: (exL w l (exE w e vs).2).1, (exL w l (exE w e vs).2).2)
end
theorem exE_c {w : Int} {e : E} {vs : List V} (h : e.k = 2) : exE w e vs = (.mk 1 (w + vs.length) ⟨false, 0⟩ [], vs ++ [e.v]) := by
  cases e with
  | mk k c v ks => rw [exE, if_pos (show k = 2 from h)]; rfl
theorem exE_n {w : Int} {e : E} {vs : List V} (h : ¬ e.k = 2) : exE w e vs = (.mk e.k e.c e.v (exL w e.ks vs).1, (exL w e.ks vs).2) := by
  cases e with
  | mk k c v ks => rw [exE, if_neg (show ¬ k = 2 from h)]; rfl
theorem exL_append (w : Int) : ∀ (l m : List E) (vs : List V), exL w (l ++ m) vs = ((exL w l vs).1 ++ (exL w m (exL w l vs).2).1, (exL w m (exL w l vs).2).2)
  | [], m, vs => rfl
  | e :: l, m, vs => by rw [List.cons_append, exL, exL_append w l m, exL]; rfl
theorem exL_next {w : Int} {l : List E} {i : Nat} {x : E} (h : l[i]? = some x) (vs : List V) : exL w (l.take (i + 1)) vs = ((exL w (l.take i) vs).1 ++ [(exE w x (exL w (l.take i) vs).2).1], (exE w x (exL w (l.take i) vs).2).2) := by
  rw [take_next h, exL_append]
  rfl
theorem exL_len (w : Int) : ∀ (l : List E) (vs : List V), (exL w l vs).1.length = l.length
  | [], _ => rfl
  | e :: l, vs => by rw [exL]; show ((exL w l (exE w e vs).2).1.length + 1) = _; rw [exL_len w l, List.length_cons]
mutual
theorem exE_pre (w : Int) : ∀ (e : E) (vs : List V), ∃ us, (exE w e vs).2 = vs ++ us ∧ us.length ≤ esz e
  | .mk k c v ks, vs => by
    by_cases h : k = 2
    · rw [exE, if_pos h]
      exact ⟨[v], rfl, by rw [esz]; show 1 ≤ _; omega⟩
    · rw [exE, if_neg h]
      obtain ⟨us, h1, h2⟩ := exL_pre w ks vs
      exact ⟨us, h1, by rw [esz]; omega⟩
theorem exL_pre (w : Int) : ∀ (l : List E) (vs : List V), ∃ us, (exL w l vs).2 = vs ++ us ∧ us.length ≤ eszL l
  | [], vs => ⟨[], by rw [exL, List.append_nil], Nat.zero_le _⟩
  | e :: l, vs => by
    obtain ⟨us, h1, h2⟩ := exE_pre w e vs
    obtain ⟨u2, h3, h4⟩ := exL_pre w l (exE w e vs).2
    exact ⟨us ++ u2, by rw [exL]; show (exL w l (exE w e vs).2).2 = _; rw [h3, h1, List.append_assoc], by rw [List.length_append, eszL]; omega⟩
end
theorem exE_sz (w : Int) : ∀ (e : E) (vs : List V), esz (exE w e vs).1 ≤ esz e ∧ eszL (exL w e.ks vs).1 ≤ eszL e.ks := by
  have key : ∀ l : List E, (∀ x, x ∈ l → ∀ vs, esz (exE w x vs).1 ≤ esz x) → ∀ vs, eszL (exL w l vs).1 ≤ eszL l := by
    intro l
    induction l with
    | nil => intro _ vs; exact Nat.le_refl _
    | cons a l ih =>
      intro h vs
      have h1 := h a (List.mem_cons_self ..) vs
      have h2 := ih (fun x hx => h x (List.mem_cons_of_mem _ hx)) (exE w a vs).2
      rw [exL]
      show eszL ((exE w a vs).1 :: _) ≤ _
      rw [eszL, eszL]
      omega
  have main : ∀ e : E, ∀ vs : List V, esz (exE w e vs).1 ≤ esz e := by
    refine E.ind (fun e ih vs => ?_)
    by_cases h : e.k = 2
    · rw [exE_c h, esz_eq e]
      show 1 + 0 ≤ _
      omega
    · rw [exE_n h, esz_eq e]
      have := key e.ks ih vs
      show 1 + eszL (exL w e.ks vs).1 ≤ _
      omega
  exact fun e vs => ⟨main e vs, key e.ks (fun x _ => main x) vs⟩
end Go.Proofs.Ytpmmagnphfcdnaa
