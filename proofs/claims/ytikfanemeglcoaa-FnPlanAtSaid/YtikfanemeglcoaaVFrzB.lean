/-
  A row of one's own that two slots bear stands still. No condition.
-/
import Derived.Test.YtikfanemeglcoaaVLib
namespace Go.Proofs.Ytikfanemeglcoaa
open Go.RowKit
section
variable {P : Program} {G : Ctx} {σ τ : Env} {a : Act} {w : World}

def frzU2 (σ : Env) (t u g s : Nat) (es : List D) : Upd := [(g, .any), (t, (σ t).frz g s es), (u, (σ u).frz g s es)]
theorem Rel.frz2 {t u g s : Nat} {es : List D} (hR : Rel G τ a w) (ht : t < nb) (hu : u < nb) (hg : nb ≤ g) (hr : τ g = .row s es) (hp : D.purL es = true) : Rel G (Env.put (frzU2 τ t u g s es) τ) a w := by
  obtain ⟨hd, F, m, h⟩ := hR
  obtain ⟨F', h1, h2⟩ := h.freeze hg hr hp
  refine ⟨hd, F', m, (h1.recast ht (fun l L e k he => by rw [Env.set_ne _ _ _ _ (by omega)]; exact D.frz_gho he) (h2 _ _ (h.slots t ht))).recast hu (fun l L e k he => ?_) (h2 _ _ (h.slots u hu))⟩
  by_cases e1 : u = t
  · subst e1
    rw [Env.set_same]
    exact he
  · rw [Env.set_ne _ _ _ _ e1, Env.set_ne _ _ _ _ (by omega)]
    exact D.frz_gho he
theorem pre_frz2 {t u g s : Nat} {es : List D} (ht : t < nb) (hu : u < nb) (hg : nb ≤ g) (hr : σ g = .row s es) (hp : D.purL es = true) : PreOK σ (frzU2 σ t u g s es) [t, u, g] [g, t, u] := by
  refine ⟨fun p hpp => ?_, fun G τ a x hag hR => ?_⟩
  · simp only [frzU2, List.mem_cons, List.not_mem_nil, or_false] at hpp
    rcases hpp with rfl | rfl | rfl
    · exact List.mem_cons_self ..
    · exact List.mem_cons_of_mem _ (List.mem_cons_self ..)
    · exact List.mem_cons_of_mem _ (List.mem_cons_of_mem _ (List.mem_cons_self ..))
  · have h1 := hag t (List.mem_cons_self ..)
    have h3 := hag u (List.mem_cons_of_mem _ (List.mem_cons_self ..))
    have h2 := hag g (List.mem_cons_of_mem _ (List.mem_cons_of_mem _ (List.mem_cons_self ..)))
    have := hR.frz2 (t := t) (u := u) ht hu hg (h2.trans hr) hp
    rw [show frzU2 τ t u g s es = frzU2 σ t u g s es by unfold frzU2; rw [h1, h3]] at this
    exact this
end
attribute [go_sem] frzU2
end Go.Proofs.Ytikfanemeglcoaa
